import PyProof.Rows.All
import Wide.All
import OpenK.AllK
import Wide.FinOn
import HandS.ForMost
import HandS.IsInst
import HandS.Walk
import HandS.SortRule
import HandS.DictTup
import HandS.ListItems
import HandS.Conv
import HandS.More
import KE.GoesEnum
import KE.GoesMore
import PySem.Challenge.RW_saylore_k24_any_text_read
import HandS.Dict
import HandS.Star
import KE.KDictPairs
import HandS.TupAny
import HandS.ForExc
import HandS.FStr
import HandS.ExcInit
import KE.KExcSuper
import HandS.Style
import HandS.SetFor
import HandS.ExcIs
import HandS.ExcField
import KE.KExcIs
import HandS.Lambda
import HandS.EndOwn
import KE.KNestM
import KE.RegKSuper
set_option Elab.async false
set_option linter.all false
set_option maxRecDepth 100000
set_option maxHeartbeats 16000000
namespace Say
open PySem PySem.Spec PyProof.Rows L2
/-! ### the text by places -/
def topS (i : Nat) : Stmt := PySem.Challenge.pw_saylore_k24_any_text_read.main.body.getD i (.Pass ⟨0, 0, 0, 0⟩)
/-! ### texts as lists of signs -/
abbrev T (l : List Nat) : Str := ⟨l.toArray⟩
theorem T_list (z : Str) : T z.cps.toList = z := by
  cases z; rfl
@[simp] theorem T_cps (l : List Nat) : (T l).cps.toList = l := rfl
theorem T_len (l : List Nat) : (T l).length = l.length := by
  show l.toArray.size = l.length
  simp
theorem T_inj {a b : List Nat} (h : T a = T b) : a = b := by
  have := congrArg (fun z : Str => z.cps.toList) h
  exact this
/-! ### heaps -/
/-- all that was tracked is as it was, but at r -/
def Stp (r : Addr) (H H' : Hp) : Prop := ∀ b o, H b = some o → b ≠ r → H' b = some o
theorem Stp.refl (r : Addr) (H : Hp) : Stp r H H := fun _ _ h _ => h
theorem Stp.trans {r : Addr} {H H1 H2 : Hp} (a : Stp r H H1) (b : Stp r H1 H2) : Stp r H H2 := fun c o h n => b c o (a c o h n) n
theorem Stp.of {r : Addr} {H H' : Hp} (e : Same H H') : Stp r H H' := fun b o h _ => e b o h
theorem Stp.seq {K : PySem.W.Frag} {r a : Addr} {H H' : Hp} {xs : List V} (e : Stp r H H') (n : a ≠ r) (h : SqL K H a xs) : SqL K H' a xs := by
  rcases h with (h | ⟨o, h⟩) | h
  · exact .inl (.inl (e _ _ h n))
  · exact .inl (.inr ⟨o, e _ _ h n⟩)
  · exact .inr h
theorem same_new {H : Hp} {p : Addr} (h : H p = none) (o : HO) : Same H (upd H p o) := fun b u q => by rw [upd_ne (ne_of_none q h)]; exact q
theorem stp_at {r : Addr} {H : Hp} (o : HO) : Stp r H (upd H r o) := fun b u q n => by rw [upd_ne n]; exact q
/-- tuples stay (frozen ones: as they were made) -/
def KT (H H' : Hp) : Prop := (∀ t xs, H t = some (.tup xs) → H' t = some (.tup xs)) ∧ ∀ t o xs, H t = some (.frz o (.tup xs)) → H' t = some (.frz o (.tup xs))
theorem KT.by {H H' : Hp} (f : ∀ t u, H t = some u → ((∃ xs, u = .tup xs) ∨ ∃ o xs, u = .frz o (.tup xs)) → H' t = some u) : KT H H' := ⟨fun t xs h => f t _ h (.inl ⟨xs, rfl⟩), fun t o xs h => f t _ h (.inr ⟨o, xs, rfl⟩)⟩
theorem KT.refl (H : Hp) : KT H H := ⟨fun _ _ h => h, fun _ _ _ h => h⟩
theorem KT.trans {H H1 H2 : Hp} (a : KT H H1) (b : KT H1 H2) : KT H H2 := ⟨fun t xs h => b.1 t xs (a.1 t xs h), fun t o xs h => b.2 t o xs (a.2 t o xs h)⟩
theorem KT.of {H H' : Hp} (e : Same H H') : KT H H' := ⟨fun t xs h => e t _ h, fun t o xs h => e t _ h⟩
/-- the row that is drawn from: the script at a -/
structure RowAt (K : PySem.W.Frag) (H : Hp) (r a : Addr) (ns : List Int) : Prop where
  row : ∃ i c m : Int, H r = some (.lst [.ref a, .int i, .int c, .int m]) ∧ 0 ≤ i ∧ 0 ≤ m ∧ m < 2147483647
  scr : SqL K H a (ns.map V.int)
  le : ns.length ≤ 63
theorem ints_ne {ns : List Int} {a : Addr} {l : List V} : ns.map V.int ≠ V.ref a :: l := by
  cases ns with
  | nil => intro z; cases z
  | cons x r => intro z; cases z
theorem Stp.scr {K : PySem.W.Frag} {r a : Addr} {H H' : Hp} {ns : List Int} {l : List V} (e : Stp r H H') (hr : H r = some (.lst (.ref a :: l))) (h : SqL K H a (ns.map V.int)) : SqL K H' a (ns.map V.int) := by
  rcases h with (h | ⟨o, h⟩) | h
  · refine .inl (.inl (e _ _ h fun z => ?_))
    subst z
    rw [hr] at h
    exact ints_ne (HO.lst.inj (Option.some.inj h)).symm
  · refine .inl (.inr ⟨o, e _ _ h fun z => ?_⟩)
    subst z
    rw [hr] at h
    cases h
  · exact .inr h
theorem RowAt.stp {K : PySem.W.Frag} {H H' : Hp} {r a : Addr} {ns : List Int} (R : RowAt K H r a ns) (e : Same H H') : RowAt K H' r a ns := by
  obtain ⟨⟨i, c, m, h, q⟩, s, l⟩ := R
  exact ⟨⟨i, c, m, e _ _ h, q⟩, e.seq s, l⟩
theorem RowAt.kt {K : PySem.W.Frag} {H H' : Hp} {r a : Addr} {ns : List Int} (R : RowAt K H r a ns) (e : Stp r H H') : KT H H' := KT.by fun t u h hu => by
  obtain ⟨⟨i, c, m, q, _⟩, _⟩ := R
  exact e t _ h (ne_of h q (by rcases hu with ⟨_, rfl⟩ | ⟨_, _, rfl⟩ <;> (intro z; cases z)))
theorem RowAt.put {K : PySem.W.Frag} {H : Hp} {r a : Addr} {ns : List Int} (R : RowAt K H r a ns) {i c m : Int} (h0 : 0 ≤ i) (h1 : 0 ≤ m) (h2 : m < 2147483647) : RowAt K (upd H r (.lst [.ref a, .int i, .int c, .int m])) r a ns := by
  obtain ⟨⟨i', c', m', q, _⟩, s, l⟩ := R
  exact ⟨⟨i, c, m, upd_same, h0, h1, h2⟩, (stp_at _).scr q s, l⟩
theorem small {n : Nat} (h : n ≤ 16000000) : n ≤ sizeLine := Nat.le_trans h (by decide)
theorem smallM {n : Nat} (h : n ≤ 16000000) : n < sizeLine := Nat.lt_of_le_of_lt h (by decide)
/-- law's promise -/
def spLaw (K : PySem.W.Frag) : Sp := fun vs H Q _ => ∃ (a : Addr) (ns : List Int), vs = [.ref a] ∧ SqL K H a (ns.map V.int) ∧ ns.length ≤ 63 ∧ ∀ H', Q (.bl true) H'
/-- _law_taken -/
def spTaken (K : PySem.W.Frag) : Sp := fun vs H Q _ => ∃ (r a : Addr) (ns : List Int) (n : Int), vs = [.ref r, .int n] ∧ RowAt K H r a ns ∧ 0 < n ∧ n < 100000 ∧
  ∀ (k : Int) (H' : Hp), 0 ≤ k → k < n → Stp r H H' → RowAt K H' r a ns → Q (.int k) H'
end Say
namespace Say
open PySem PySem.Spec PyProof.Rows L2
theorem T_app (a b : List Nat) : T a ++ T b = T (a ++ b) := TL.ext_tl (by rw [TL.tl_append])
theorem hash_eq : ("#" : Str) = T [35] := by decide +kernel
theorem nil_eq : ("" : Str) = T [] := by decide +kernel
theorem joinL_nil : ∀ ls : List (List Nat), TL.joinL [] ls = ls.flatten
  | [] => rfl
  | [p] => by simp [TL.joinL]
  | p :: q :: r => by
    show p ++ ([] ++ TL.joinL [] (q :: r)) = _
    rw [joinL_nil (q :: r)]
    simp
theorem join_nil (ls : List (List Nat)) : Txt.join (T []) (ls.map T) = T ls.flatten := by
  refine TL.ext_tl ?_
  rw [TL.join_eq, TL.tl_join]
  show TL.joinL [] ((ls.map T).map TL.tl) = ls.flatten
  rw [List.map_map, ← joinL_nil]
  congr 1
  exact List.map_id' ls
theorem map_single : ∀ l : List Nat, (l.map fun c => [c]).flatten = l
  | [] => rfl
  | c :: r => by
    show [c] ++ (r.map fun c => [c]).flatten = c :: r
    rw [map_single r]; rfl
/-- the row's own list -/
def RowIn (H : Hp) (r a : Addr) : Prop := ∃ i c m : Int, H r = some (.lst [.ref a, .int i, .int c, .int m]) ∧ 0 ≤ i ∧ 0 ≤ m ∧ m < 2147483647
theorem RowAt.in {K : PySem.W.Frag} {H : Hp} {r a : Addr} {ns : List Int} (R : RowAt K H r a ns) : RowIn H r a := R.row
theorem RowAt.of {K : PySem.W.Frag} {H H' : Hp} {r a : Addr} {ns : List Int} (R : RowAt K H r a ns) (e : Stp r H H') (w : RowIn H' r a) : RowAt K H' r a ns := by
  obtain ⟨⟨i, c, m, q, _⟩, s, l⟩ := R
  exact ⟨w, e.scr q s, l⟩
theorem RowIn.upd {H : Hp} {r a D : Addr} {o : HO} (w : RowIn H r a) (n : r ≠ D) : RowIn (upd H D o) r a := by
  obtain ⟨i, c, m, q, b⟩ := w
  exact ⟨i, c, m, by rw [upd_ne n]; exact q, b⟩
theorem RowAt.nw {K : PySem.W.Frag} {H : Hp} {r a D : Addr} {ns : List Int} (R : RowAt K H r a ns) (h : H D = none) : r ≠ D := by
  obtain ⟨⟨i, c, m, q, _⟩, s, l⟩ := R
  exact ne_of_none q h
theorem Stp.put {r D : Addr} {H H' : Hp} (e : Stp r H H') (h : H D = none) (o : HO) : Stp r H (upd H' D o) := fun b u q n => by
  rw [upd_ne (ne_of_none q h)]
  exact e b u q n
theorem Stp.one {r D : Addr} {H H' : Hp} {o : HO} (e : Stp r H H') (h : H D = some o) (n : r ≠ D) : H' D = some o := e _ _ h (Ne.symm n)
/-- signs of a text, a list of one-sign texts -/
def sg (l : List Nat) : List V := l.map fun c => V.str (T [c])
theorem sg_map (l : List Nat) : sg l = ((l.map fun c => [c]).map T).map V.str := by
  unfold sg
  rw [List.map_map, List.map_map]
  rfl
theorem sg_len (l : List Nat) : (sg l).length = l.length := by unfold sg; rw [List.length_map]
theorem sum_ones : ∀ l : List Nat, (((l.map fun c => [c]).map T).map (fun z : Str => z.length)).sum = l.length
  | [] => rfl
  | c :: r => by
    show 1 + (((r.map fun c => [c]).map T).map (fun z : Str => z.length)).sum = r.length + 1
    rw [sum_ones r]; omega
end Say
namespace Say
open PySem PySem.Spec PyProof.Rows L2
/-- a def that stands at the module's name and keeps its promise -/
def Df (P : Program) (w : World) (K : PySem.W.Frag) (mg : Str → Option Value) (base : Heap) (x : Str) (ps : List Str) (k : Nat) (sp : Sp) : Prop :=
  ∃ f fd, FnOk P w K mg base CX0 k f fd ps sp ∧ PySem.W.keepIn K (.ref f) = true ∧ Binds K fd ps [] ∧ mg x = some (.ref f)
theorem hash_app (L : List Nat) : (Str.ofString "#" ++ T L) = T (35 :: L) := by
  rw [show Str.ofString "#" = T [35] from hash_eq, T_app]
  rfl
theorem app_hash (L : List Nat) : (T L ++ Str.ofString "#") = T (L ++ [35]) := by
  rw [show Str.ofString "#" = T [35] from hash_eq, T_app]
theorem T_at {l : List Nat} {i c : Nat} (h : (T l).cps[i]? = some c) : l[i]? = some c := by
  have h : l.toArray[i]? = some c := h
  rw [List.getElem?_toArray] at h
  exact h
theorem T_at' {l : List Nat} {i c : Nat} (h : l[i]? = some c) : (T l).cps[i]? = some c := by
  show l.toArray[i]? = some c
  rw [List.getElem?_toArray]
  exact h
theorem T_size (l : List Nat) : (T l).cps.size = l.length := by
  show l.toArray.size = _
  simp
theorem take_next {l : List Nat} {i c : Nat} (h : l[i]? = some c) : l.take (i + 1) = l.take i ++ [c] := by
  rw [List.take_add_one, h]; rfl
theorem sg_app (a : List Nat) (c : Nat) : sg a ++ [V.str (T [c])] = sg (a ++ [c]) := by
  unfold sg
  rw [List.map_append]
  rfl
theorem len_hash : (Str.ofString "#").length = 1 := by decide +kernel
end Say
namespace Say
open PySem PySem.Spec PyProof.Rows L2
theorem at_list {α : Type} {l : List α} {z : Int} (h : z.toNat < l.length) (h0 : 0 ≤ z) : atI l z = some l[z.toNat] := by
  have q : l[z.toNat]? = some l[z.toNat] := List.getElem?_eq_getElem h
  have := atI_nat q
  rwa [show ((z.toNat : Nat) : Int) = z by omega] at this
end Say
namespace Say
open PySem PySem.Spec PyProof.Rows L2
/-! ### the data -/
structure Rule where
  ah : List Nat
  ow : List Nat
  be : List Nat
  so : List Nat
def Rule.vs (ρ : Rule) : List V := [.str (T ρ.ah), .str (T ρ.ow), .str (T ρ.be), .str (T ρ.so)]
/-- a rule of a book of the letters L -/
structure RuleOk (L : List Nat) (ρ : Rule) : Prop where
  ah : ρ.ah.Sublist (35 :: L)
  ow : ∀ c ∈ ρ.ow, c ∈ L
  o1 : 1 ≤ ρ.ow.length
  o2 : ρ.ow.length ≤ 2
  be : ρ.be.Sublist (35 :: L)
  so : ∀ c ∈ ρ.so, 65 ≤ c ∧ c ≤ 90
  s3 : ρ.so.length ≤ 3
/-- the tuple at R holds the rules -/
def RulesAt (H : Hp) (R : Addr) (rs : List Rule) : Prop := ∃ ts : List Addr, H R = some (.tup (ts.map V.ref)) ∧ Paired (fun t ρ => H t = some (.tup (Rule.vs ρ))) ts rs
theorem paired_mono {α β : Type} {F G : α → β → Prop} (h : ∀ x y, F x y → G x y) : ∀ {xs : List α} {ys : List β}, Paired F xs ys → Paired G xs ys
  | _, _, .nil => .nil
  | _, _, .cons a b => .cons (h _ _ a) (paired_mono h b)
theorem paired_app {α β : Type} {F : α → β → Prop} : ∀ {xs : List α} {ys : List β} {xs' : List α} {ys' : List β}, Paired F xs ys → Paired F xs' ys' → Paired F (xs ++ xs') (ys ++ ys')
  | _, _, _, _, .nil, h => h
  | _, _, _, _, .cons a b, h => .cons a (paired_app b h)
theorem paired_len {α β : Type} {F : α → β → Prop} : ∀ {xs : List α} {ys : List β}, Paired F xs ys → xs.length = ys.length
  | _, _, .nil => rfl
  | _, _, .cons a b => by simp [paired_len b]
theorem paired_at {α β : Type} {F : α → β → Prop} : ∀ {xs : List α} {ys : List β}, Paired F xs ys → ∀ {i : Nat} {x : α}, xs[i]? = some x → ∃ y, ys[i]? = some y ∧ F x y
  | _, _, .nil, i, x, h => by cases h
  | _, _, .cons r t, 0, x, h => by
    have e := Option.some.inj h
    subst e
    exact ⟨_, rfl, r⟩
  | _, _, .cons r t, i + 1, x, h => paired_at t h
theorem paired_at' {α β : Type} {F : α → β → Prop} : ∀ {xs : List α} {ys : List β}, Paired F xs ys → ∀ {i : Nat} {y : β}, ys[i]? = some y → ∃ x, xs[i]? = some x ∧ F x y
  | _, _, .nil, i, x, h => by cases h
  | _, _, .cons r t, 0, x, h => by
    have e := Option.some.inj h
    subst e
    exact ⟨_, rfl, r⟩
  | _, _, .cons r t, i + 1, x, h => paired_at' t h
theorem RulesAt.kt {H H' : Hp} {R : Addr} {rs : List Rule} (h : RulesAt H R rs) (e : KT H H') : RulesAt H' R rs := by
  obtain ⟨ts, h1, h2⟩ := h
  exact ⟨ts, e.1 _ _ h1, paired_mono (fun t ρ q => e.1 _ _ q) h2⟩
theorem Stp.kt {r a : Addr} {H H' : Hp} (e : Stp r H H') (w : RowIn H r a) : KT H H' := KT.by fun t u h hu => by
  obtain ⟨i, c, m, q, _⟩ := w
  exact e t _ h (ne_of h q (by rcases hu with ⟨_, rfl⟩ | ⟨_, _, rfl⟩ <;> (intro z; cases z)))
theorem kt_new {H : Hp} {D : Addr} {o : HO} (h : H D = none) : KT H (upd H D o) := KT.of (same_new h o)
theorem kt_upd {H : Hp} {D : Addr} {l : List V} {o : HO} (h : H D = some (.lst l)) : KT H (upd H D o) := KT.by fun t u q hu => by
  rw [upd_ne (ne_of q h (by rcases hu with ⟨_, rfl⟩ | ⟨_, _, rfl⟩ <;> (intro z; cases z)))]
  exact q
end Say
namespace Say
open PySem PySem.Spec PyProof.Rows L2
/-- the built-in names that the text leaves alone -/
structure Bn (mg : Str → Option Value) : Prop where
  len : mg "len" = none
  rng : mg "range" = none
  tup : mg "tuple" = none
  lst : mg "list" = none
  isi : mg "isinstance" = none
  str : mg "str" = none
  all : mg "all" = none
  enu : mg "enumerate" = none
  srt : mg "sorted" = none
  bool : mg "bool" = none
def isText (l S : List Nat) (lo hi : Nat) : Bool := decide (lo ≤ l.length) && (decide (l.length ≤ hi) && l.all fun c => decide (c ∈ S))
theorem isText_of {l S : List Nat} {lo hi : Nat} (h1 : lo ≤ l.length) (h2 : l.length ≤ hi) (h3 : ∀ c ∈ l, c ∈ S) : isText l S lo hi = true := by
  unfold isText
  rw [decide_eq_true h1, decide_eq_true h2]
  simp only [Bool.true_and, List.all_eq_true, decide_eq_true_eq]
  exact h3
/-- each sign is more than the one ahead -/
def rises : List Nat → Bool
  | a :: b :: r => decide (a < b) && rises (b :: r)
  | _ => true
end Say
namespace Say
open PySem PySem.Spec PyProof.Rows L2
theorem atI_of {α : Type} {xs : List α} {z : Int} {j : Nat} {v : α} (h : xs[j]? = some v) (e : z = (j : Int)) : atI xs z = some v := by
  rw [e]
  exact atI_nat h
end Say
namespace Say
open PySem PySem.Spec PyProof.Rows L2
section
variable {P : Program} {w : World} {K : PySem.W.Frag} {mg : Str → Option Value} {base : Heap}
abbrev sIsText : Stmt := topS 36
theorem scIsText : FnScope ["text", "signs", "least", "most", "sign"] ["text", "signs", "least", "most"] (defScope sIsText) := ⟨rfl, rfl, rfl, by decide +kernel, rfl, by decide +kernel, by decide +kernel⟩
def spIsText : Sp := fun vs H Q _ => ∃ (l S : List Nat) (lo hi : Nat), vs = [.str (T l), .str (T S), .int lo, .int hi] ∧ l.length ≤ 100 ∧
  ∀ (H' : Hp), Same H H' → Q (.bl (isText l S lo hi)) H'
theorem ok_isText {f : Addr} {fd : FuncData} (F : Fun K "is_text" "is_text" sIsText f fd) (B : Bn mg) :
    FnOk P w K mg base CX0 1 f fd ["text", "signs", "least", "most"] spIsText := by
  refine F.ok scIsText (fun vs H Q E h => ?_) (fun cdv A outer s H vs Q E hr h => ?_)
  · obtain ⟨l, S, lo, hi, rfl, _⟩ := h
    rfl
  · obtain ⟨l, S, lo, hi, rfl, hz, q⟩ := h
    refine ⟨_, pss_cons (ps_if (PW.pt (pw_or (pt_not (pt_val (pe_callB call_isi (by rfl) B.isi (by decide +kernel) (pa_cons (pv 0) (pa_cons (pe_bltn (v := .ty "str") rfl B.str (by decide +kernel) rfl) pa_nil)))))
          (pw_or1 (pt_not (pt_chain op_le op_le (pv 2) (pe_callB call_len_str (by rfl) B.len PySem.boot_len (pa_cons (pv 0) pa_nil)) (pv 3)))))) (pss_one (ps_ret pe_bl)) pss_nil)
      (pss_one (ps_ret (pe_callB (cr_all rfl) (by rfl) B.all (by decide +kernel) (pa_cons (pe_lc (own := [("sign", 4)]) (g := gName 4) rfl scIsText.nd (pi_str (pv 0))
        (blkOk_by (N := ["text", "signs", "least", "most", "sign"]) (sc := defScope sIsText) (by decide +kernel)) (fun _ _ _ _ _ => pg_name (i := 4) scIsText.nd rfl (.inl rfl))
        (fun _ _ _ _ _ => pts_nil) (fun _ _ _ _ _ => pe_cmpR op_in_sign (pv 4) (pv 1) rfl)) pa_nil)))), ?_⟩
    refine ⟨_, rfl, _, _, .type "str", _, true, rfl, ClsV.ty _, .base (.str _), kit_ty (by decide +kernel), true, rfl, ?_⟩
    refine iteF ?_
    have hlen : (T l).length ≤ sizeLine := by rw [T_len]; exact small (by omega)
    refine ⟨_, rfl, _, rfl, _, rfl, hlen, _, _, rfl, rfl, _, rfl, ?_⟩
    have eT : (lo : Int) ≤ ((T l).length : Int) ↔ lo ≤ l.length := by rw [T_len]; omega
    have eU : ((T l).length : Int) ≤ (hi : Int) ↔ l.length ≤ hi := by rw [T_len]; omega
    refine ite2 (fun c1 => ?_) (fun c1 => ?_)
    · refine ⟨_, rfl, _, _, rfl, rfl, _, rfl, ?_⟩
      have c1' := eT.mp (of_decide_eq_true c1)
      by_cases c2 : ((T l).length : Int) ≤ (hi : Int)
      · rw [decide_eq_true c2]
        have c2' := eU.mp c2
        refine iteF ?_
        refine ⟨_, rfl, T l, rfl, fun D hD => ?_⟩
        refine lc_it (walk_str) (fun i H2 => H2 D = some (.lst (((l.take i).map fun c => decide (c ∈ S)).map V.bl)) ∧ Same H H2) ?_ (fun _ _ _ _ => trivial) ?_ ?_
        · exact ⟨upd_same, same_new hD _⟩
        · rintro i x H2 H2' hi' ⟨e1, e2⟩ ⟨rfl, c, hc, rfl⟩
          have hc := T_at hc
          refine ⟨rfl, ?_⟩
          refine ⟨_, rfl, _, rfl, c, T S, rfl, rfl, _, e1, ?_, ?_, ?_⟩
          · rw [List.length_map, List.length_map, List.length_take]
            exact small1000 (by omega)
          · rw [upd_same, take_next hc, List.map_append, List.map_append]
            rfl
          · exact fun b u q => by
              rw [upd_ne (ne_of_none q hD)]
              exact e2 b u q
        · rintro H2 ⟨e1, e2⟩
          rw [T_size, List.take_length] at e1
          refine ⟨D, _, rfl, .inl (.inl e1), ?_⟩
          have := q H2 e2
          unfold isText at this
          rw [decide_eq_true c1', decide_eq_true c2', Bool.true_and, Bool.true_and] at this
          rw [List.all_map]
          exact this
      · rw [decide_eq_false c2]
        refine iteT ?_
        have := q H (Same.refl H)
        unfold isText at this
        rw [decide_eq_false (fun z => c2 (eU.mpr z)), Bool.false_and, Bool.and_false] at this
        exact this
    · refine ⟨_, rfl, iteT ?_⟩
      have := q H (Same.refl H)
      unfold isText at this
      rw [decide_eq_false (fun z => c1 (decide_eq_true (eT.mpr z))), Bool.false_and] at this
      exact this
end
end Say
namespace Say
open PySem PySem.Spec PyProof.Rows L2
section
variable {P : Program} {w : World} {K : PySem.W.Frag} {mg : Str → Option Value} {base : Heap}
abbrev sRise : Stmt := topS 37
theorem scRise : FnScope ["text", "at"] ["text"] (defScope sRise) := ⟨rfl, rfl, rfl, by decide +kernel, rfl, by decide +kernel, by decide +kernel⟩
/-- the j-th sign against the next, for j below n -/
def risesTo (l : List Nat) (n : Nat) : List Bool := (List.range n).map fun j => decide ((l.getD j 0) < (l.getD (j + 1) 0))
theorem rises_range : ∀ l : List Nat, (risesTo l (l.length - 1)).all id = rises l
  | [] => rfl
  | [_] => rfl
  | a :: b :: r => by
    have ih := rises_range (b :: r)
    show (risesTo (a :: b :: r) (r.length + 1)).all id = (decide (a < b) && rises (b :: r))
    rw [← ih]
    unfold risesTo
    rw [List.range_succ_eq_map, List.map_cons, List.map_map, List.all_cons]
    rfl
theorem risesTo_next (l : List Nat) (n : Nat) : risesTo l (n + 1) = risesTo l n ++ [decide ((l.getD n 0) < (l.getD (n + 1) 0))] := by
  unfold risesTo
  rw [List.range_succ, List.map_append]
  rfl
theorem risesTo_len (l : List Nat) (n : Nat) : (risesTo l n).length = n := by
  unfold risesTo
  rw [List.length_map, List.length_range]
def spRise : Sp := fun vs H Q _ => ∃ (l : List Nat), vs = [.str (T l)] ∧ l.length ≤ 100 ∧ ∀ (H' : Hp), Same H H' → Q (.bl (rises l)) H'
theorem lt_one (a b : Nat) : decide (([a] : List Nat) < [b]) = decide (a < b) := by
  by_cases h : a < b
  · rw [decide_eq_true h, decide_eq_true]
    exact List.Lex.rel h
  · rw [decide_eq_false h, decide_eq_false]
    intro z
    cases z with
    | rel q => exact h q
    | cons q => cases q
theorem ok_rise {f : Addr} {fd : FuncData} (F : Fun K "is_rising" "is_rising" sRise f fd) (B : Bn mg) : FnOk P w K mg base CX0 1 f fd ["text"] spRise := by
  refine F.ok scRise (fun vs H Q E h => ?_) (fun cdv A outer s H vs Q E hr h => ?_)
  · obtain ⟨l, rfl, _⟩ := h
    rfl
  · obtain ⟨l, rfl, hz, q⟩ := h
    have hlen : (T l).length ≤ sizeLine := by rw [T_len]; exact small (by omega)
    refine ⟨_, pss_one (ps_ret (pe_callB (cr_all rfl) (by rfl) B.all (by decide +kernel) (pa_cons (pe_lc (own := [("at", 1)]) (g := gName 1) rfl scRise.nd
        (pi_range2 rfl B.rng (pa_cons pe_int (pa_cons (pe_callB call_len_str (by rfl) B.len PySem.boot_len (pa_cons (pv 0) pa_nil)) pa_nil)))
        (blkOk_by (N := ["text", "at"]) (sc := defScope sRise) (by decide +kernel)) (fun _ _ _ _ _ => pg_name (i := 1) scRise.nd rfl (.inl rfl))
        (fun _ _ _ _ _ => pts_nil) (fun _ _ _ _ _ => pe_cmpR op_lt_str (pe_ix ix_str (pv 0) (pe_op op_sub (pv 1) pe_int) (fun _ _ => rfl)) (pe_ix ix_str (pv 0) (pv 1) (fun _ _ => rfl)) (nomark _))) pa_nil))), ?_⟩
    refine ⟨_, rfl, _, rfl, hlen, 1, _, rfl, ⟨by decide, by decide, by omega, by rw [T_len]; omega⟩, fun D hD => ?_⟩
    refine lc_it (walk_range) (fun i H2 => H2 D = some (.lst ((risesTo l i).map V.bl)) ∧ Same H H2) ?_ (fun _ _ _ _ => trivial) ?_ ?_
    · exact ⟨upd_same, same_new hD _⟩
    · rintro i x H2 H2' hi' ⟨e1, e2⟩ ⟨rfl, rfl⟩
      rw [T_len] at hi'
      have g1 : i < l.length := by omega
      have g2 : i + 1 < l.length := by omega
      refine ⟨rfl, ?_⟩
      have q1 : (T l).cps.toList[i]? = some (l.getD i 0) := by rw [T_cps, List.getD_eq_getElem?_getD, List.getElem?_eq_getElem g1]; rfl
      have q2 : (T l).cps.toList[i + 1]? = some (l.getD (i + 1) 0) := by rw [T_cps, List.getD_eq_getElem?_getD, List.getElem?_eq_getElem g2]; rfl
      refine ⟨_, rfl, _, rfl, _, _, rfl, rfl, T l, 1 + (i : Int) - 1, l.getD i 0, rfl, rfl, hlen, atI_of q1 (by omega), ?_⟩
      refine ⟨_, rfl, _, rfl, T l, 1 + (i : Int), l.getD (i + 1) 0, rfl, rfl, hlen, atI_of q2 (by omega), ?_⟩
      refine ⟨_, _, rfl, rfl, _, e1, ?_, ?_, ?_⟩
      · rw [List.length_map, risesTo_len]
        exact small1000 (by omega)
      · rw [upd_same, risesTo_next, List.map_append]
        show some (HO.lst (_ ++ [V.bl (decide (([l.getD i 0] : List Nat) < [l.getD (i + 1) 0]))])) = _
        rw [lt_one]
        rfl
      · exact fun b u q => by
          rw [upd_ne (ne_of_none q hD)]
          exact e2 b u q
    · rintro H2 ⟨e1, e2⟩
      rw [show (((T l).length : Int) - 1).toNat = l.length - 1 by rw [T_len]; omega] at e1
      refine ⟨D, _, rfl, .inl (.inl e1), ?_⟩
      rw [rises_range]
      exact q H2 e2
end
end Say
namespace Say
open PySem PySem.Spec PyProof.Rows L2
/-- the letters of a book -/
structure LetOk (L : List Nat) : Prop where
  l2 : 2 ≤ L.length
  l4 : L.length ≤ 4
  up : rises L = true
  az : ∀ c ∈ L, 97 ≤ c ∧ c ≤ 122
theorem rises_iff : ∀ l : List Nat, rises l = true ↔ l.Pairwise (· < ·)
  | [] => by simp [rises]
  | [a] => by simp [rises]
  | a :: b :: r => by
    have ih := rises_iff (b :: r)
    show (decide (a < b) && rises (b :: r)) = true ↔ _
    rw [Bool.and_eq_true, ih, List.pairwise_cons (a := a)]
    constructor
    · rintro ⟨h1, h2⟩
      have h1 := of_decide_eq_true h1
      refine ⟨fun x hx => ?_, h2⟩
      rcases List.mem_cons.mp hx with rfl | hx
      · exact h1
      · exact Nat.lt_trans h1 ((List.pairwise_cons.mp h2).1 x hx)
    · rintro ⟨h1, h2⟩
      exact ⟨decide_eq_true (h1 b (List.mem_cons_self ..)), h2⟩
theorem LetOk.hash {L : List Nat} (h : LetOk L) : rises (35 :: L) = true := (rises_iff _).mpr (List.pairwise_cons.mpr ⟨fun c hc => by have := (h.az c hc).1; omega, (rises_iff _).mp h.up⟩)
theorem side_ok {L z : List Nat} (h : LetOk L) (s : z.Sublist (35 :: L)) : (isText z (35 :: L) 0 (L.length + 1) && rises z) = true := by
  rw [Bool.and_eq_true]
  exact ⟨isText_of (Nat.zero_le _) (by have := s.length_le; simpa using this) fun c hc => s.subset hc, (rises_iff _).mpr (((rises_iff _).mp h.hash).sublist s)⟩
/-- a constant that holds a number -/
abbrev KI (mg : Str → Option Value) (x : Str) (n : Int) : Prop := ∃ t, mg x = some (.int n t)
/-- what the module's constants hold -/
structure Cn (mg : Str → Option Value) : Prop where
  small : ∃ t, mg "SMALL" = some (.str "abcdefghijklmnopqrstuvwxyz" t)
  caps : ∃ t, mg "CAPITALS" = some (.str "ABCDEFGHIJKLMNOPQRSTUVWXYZ" t)
  edge : ∃ t, mg "EDGE" = some (.str "#" t)
  mrul : ∃ t, mg "MOST_RULES" = some (.int 12 t)
  lexc : ∃ t, mg "LONGEST_EXCEPTION" = some (.int 8 t)
  lrs : ∃ t, mg "LONGEST_RULE_SOUNDS" = some (.int 3 t)
  lso : ∃ t, mg "LONGEST_SOUNDS" = some (.int 36 t)
def smallL : List Nat := (List.range 26).map (· + 97)
def capsL : List Nat := (List.range 26).map (· + 65)
theorem small_eq : Str.ofString "abcdefghijklmnopqrstuvwxyz" = T smallL := by decide +kernel
theorem caps_eq : Str.ofString "ABCDEFGHIJKLMNOPQRSTUVWXYZ" = T capsL := by decide +kernel
theorem mem_small {c : Nat} (h : 97 ≤ c ∧ c ≤ 122) : c ∈ smallL := List.mem_map.mpr ⟨c - 97, List.mem_range.mpr (by omega), by omega⟩
theorem mem_caps {c : Nat} (h : 65 ≤ c ∧ c ≤ 90) : c ∈ capsL := List.mem_map.mpr ⟨c - 65, List.mem_range.mpr (by omega), by omega⟩
section
variable {P : Program} {w : World} {K : PySem.W.Frag} {mg : Str → Option Value} {base : Heap}
abbrev psIsText : List Str := ["text", "signs", "least", "most"]
abbrev sBeside : Stmt := topS 32
theorem scBeside : FnScope ["letters", "signs"] ["letters", "signs"] (defScope sBeside) := ⟨rfl, rfl, rfl, by decide +kernel, rfl, by decide +kernel, by decide +kernel⟩
def spBeside : Sp := fun vs H Q _ => ∃ (L z : List Nat), vs = [.str (T L), .str (T z)] ∧ L.length ≤ 50 ∧ z.length ≤ 100 ∧ ∀ (H' : Hp), Same H H' → Q (.bl (isText z (35 :: L) 0 (L.length + 1) && rises z)) H'
theorem ok_beside {f : Addr} {fd : FuncData} (F : Fun K "is_beside" "is_beside" sBeside f fd) (B : Bn mg) (C : Cn mg) (DT : Df P w K mg base "is_text" psIsText 1 spIsText) (DR : Df P w K mg base "is_rising" ["text"] 1 spRise) :
    FnOk P w K mg base CX0 2 f fd ["letters", "signs"] spBeside := by
  obtain ⟨fT, fdT, GT, kT, bT, mT⟩ := DT
  obtain ⟨fR, fdR, GR, kR, bR, mR⟩ := DR
  obtain ⟨tE, mE⟩ := C.edge
  refine F.ok scBeside (fun vs H Q E h => ?_) (fun cdv A outer s H vs Q E hr h => ?_)
  · obtain ⟨L, z, rfl, _⟩ := h
    rfl
  · obtain ⟨L, z, rfl, hL, hz, q⟩ := h
    refine ⟨_, pss_one (ps_ret (pe_and (pe_call GT hr (by rfl) mT kT bT .nil pass0 (pa_cons (pv 1) (pa_cons (pe_op op_add_str (pe_glob (v := .str "#") rfl mE ⟨_, rfl⟩) (pv 0)) (pa_cons pe_int (pa_cons (pe_op op_add (pe_callB call_len_str (by rfl) B.len PySem.boot_len (pa_cons (pv 0) pa_nil)) pe_int) pa_nil)))))
        (pe_one (pe_call GR hr (by rfl) mR kR bR .nil pass0 (pa_cons (pv 1) pa_nil))))), ?_⟩
    have hl : (T L).length ≤ sizeLine := by rw [T_len]; exact small (by omega)
    refine ⟨_, rfl, _, rfl, _, _, rfl, rfl, (by rw [len_hash, T_len]; exact small (by omega)), _, rfl, _, rfl, hl, _, _, rfl, rfl, z, 35 :: L, 0, L.length + 1, ?_, hz, fun H1 s1 => ?_⟩
    · rw [hash_app, T_len]
      rfl
    refine ⟨_, rfl, ite2 (fun c => ?_) (fun c => ?_)⟩
    · refine ⟨_, rfl, z, rfl, hz, fun H2 s2 => ?_⟩
      have := q H2 (s1.trans s2)
      rw [c, Bool.true_and] at this
      exact this
    · have := q H1 s1
      rw [Bool.eq_false_iff.mpr c, Bool.false_and] at this
      exact this
abbrev sIsRule : Stmt := topS 31
theorem scIsRule : FnScope ["letters", "rule", "ahead", "own", "behind", "sounds"] ["letters", "rule"] (defScope sIsRule) := ⟨rfl, rfl, rfl, by decide +kernel, rfl, by decide +kernel, by decide +kernel⟩
def spIsRule : Sp := fun vs H Q _ => ∃ (L : List Nat) (t : Addr) (ρ : Rule), vs = [.str (T L), .ref t] ∧ H t = some (.tup ρ.vs) ∧ LetOk L ∧ RuleOk L ρ ∧ ∀ (H' : Hp), Same H H' → Q (.bl true) H'
theorem ok_isRule {f : Addr} {fd : FuncData} (F : Fun K "is_rule" "is_rule" sIsRule f fd) (B : Bn mg) (C : Cn mg) (DT : Df P w K mg base "is_text" psIsText 1 spIsText) (DB : Df P w K mg base "is_beside" ["letters", "signs"] 2 spBeside) :
    FnOk P w K mg base CX0 3 f fd ["letters", "rule"] spIsRule := by
  obtain ⟨fT, fdT, GT, kT, bT, mT⟩ := DT
  obtain ⟨fB, fdB, GB, kB, bB, mB⟩ := DB
  obtain ⟨tC, mC⟩ := C.caps
  obtain ⟨tS, mS⟩ := C.lrs
  refine F.ok scIsRule (fun vs H Q E h => ?_) (fun cdv A outer s H vs Q E hr h => ?_)
  · obtain ⟨L, t, ρ, rfl, _⟩ := h
    rfl
  · obtain ⟨L, t, ρ, rfl, ht, hL, hρ, q⟩ := h
    have hr1 : Room 1 _ := hr.mono (by decide)
    refine ⟨_, pss_cons (ps_if (PW.pt (pw_or (pt_not (pt_val (pe_callB call_isi (by rfl) B.isi (by decide +kernel) (pa_cons (pv 1) (pa_cons (pe_bltn (v := .ty "tuple") rfl B.tup (by decide +kernel) rfl) pa_nil)))))
          (pw_or1 (pt_cmpR op_ne (pe_callB call_len (by rfl) B.len PySem.boot_len (pa_cons (pv 1) pa_nil)) pe_int (nomark _))))) (pss_one (ps_ret pe_bl)) pss_nil)
      (pss_cons (ps_asg (pv 1) (pg_tup (by rfl) (pgs_cons (pg_name (i := 2) scIsRule.nd rfl (.inl rfl)) (pgs_cons (pg_name (i := 3) scIsRule.nd rfl (.inl rfl)) (pgs_cons (pg_name (i := 4) scIsRule.nd rfl (.inl rfl)) (pgs_cons (pg_name (i := 5) scIsRule.nd rfl (.inl rfl)) pgs_nil))))))
      (pss_one (ps_ret (pe_and (pe_call GB hr (by rfl) mB kB bB .nil pass0 (pa_cons (pv 0) (pa_cons (pv 2) pa_nil)))
        (pe_and (pe_call GT hr1 (by rfl) mT kT bT .nil pass0 (pa_cons (pv 3) (pa_cons (pv 0) (pa_cons pe_int (pa_cons pe_int pa_nil)))))
        (pe_and (pe_call GB hr (by rfl) mB kB bB .nil pass0 (pa_cons (pv 0) (pa_cons (pv 4) pa_nil)))
        (pe_one (pe_call GT hr1 (by rfl) mT kT bT .nil pass0 (pa_cons (pv 5) (pa_cons (pe_glob (v := .str "ABCDEFGHIJKLMNOPQRSTUVWXYZ") rfl mC ⟨_, rfl⟩) (pa_cons pe_int (pa_cons (pe_glob (v := .int 3) rfl mS ⟨_, rfl⟩) pa_nil)))))))))))), ?_⟩
    have l5 := hρ.ah.length_le
    have l6 := hρ.be.length_le
    rw [List.length_cons] at l5 l6
    have l4 := hL.l4
    refine ⟨_, rfl, _, _, .type "tuple", _, true, rfl, ClsV.ty _, .base (.tup ht), kit_ty (by decide +kernel), true, rfl, iteF ?_⟩
    refine ⟨_, rfl, _, 4, rfl, .inr ⟨_, .inl (.inl ht), rfl⟩, rfl, _, rfl, iteF ?_⟩
    refine ⟨_, rfl, t, _, rfl, .inl (.inl ht), rfl, _, _, rfl, _, _, rfl, _, _, rfl, _, _, rfl, rfl, ?_⟩
    refine ⟨_, rfl, _, rfl, L, ρ.ah, rfl, by omega, by omega, fun H1 s1 => ?_⟩
    refine ⟨_, rfl, ?_⟩
    rw [side_ok hL hρ.ah]
    refine iteT ?_
    refine ⟨_, rfl, _, rfl, ρ.ow, L, 1, 2, rfl, (by have := hρ.o2; omega), fun H2 s2 => ?_⟩
    refine ⟨_, rfl, ?_⟩
    rw [isText_of hρ.o1 hρ.o2 hρ.ow]
    refine iteT ?_
    refine ⟨_, rfl, _, rfl, L, ρ.be, rfl, by omega, by omega, fun H3 s3 => ?_⟩
    refine ⟨_, rfl, ?_⟩
    rw [side_ok hL hρ.be]
    refine iteT ?_
    refine ⟨_, rfl, ρ.so, capsL, 0, 3, (by rw [caps_eq]; rfl), (by have := hρ.s3; omega), fun H4 s4 => ?_⟩
    rw [isText_of (Nat.zero_le _) hρ.s3 fun c hc => mem_caps (hρ.so c hc)]
    exact q H4 (s1.trans (s2.trans (s3.trans s4)))
end
end Say
namespace PySem
open Sem (wp)
open AutoSeq1 (wpAny_loadPart')
/-- enumerate(tuple): what the making of it meets -/
theorem say_meets_enumT (l : Addr) (o0 : Obj) (items : Array Value) (n : Nat) (clC : o0.cls = .type "tuple") (dtD : o0.data = .seq items n) :
    Meets (Builtin.«enumerate.__new__» ⟨[.type "enumerate", .ref l], []⟩) (fun _ R s => s.heap.get? l = some o0 ∧
      R (.ok (.ret (.ref (s.heap.push { cls := .type "tuple_iterator", data := .fields #[.ref l, .int 0 0] }).objs.size)))
        { s with heap := (s.heap.push { cls := .type "tuple_iterator", data := .fields #[.ref l, .int 0 0] }).push { cls := .type "enumerate", data := .fields #[.none, .bool false, .ref s.heap.objs.size, rawInt 0, .none, .none] } }) :=
  .of_wp fun prog w A R s h => by
    obtain ⟨txP, g, d, tkn, os⟩ := s; obtain ⟨lnT, h⟩ := h
    obtain ⟨oc, od, dt, osl⟩ := o0
    replace clC : oc = .type "tuple" := clC
    replace dtD : dt = .seq items n := dtD
    subst clC dtD
    have hsub := sub_enumerate
    have hL : Heap.IsTuple (Shared.heap ⟨txP, g, d, tkn, os⟩) l items := ⟨_, lnT, rfl, n, rfl⟩
    wp_walk using wpAny_loadPart' lnT
    refine wpAny_stack_any fun sta => wpAny_pure ?_
    split
    · rename_i c _ _ _ _ _
      cases (c == Value.type "enumerate")
      · wp_walk using wpAny_loadPart' lnT, wpAny_pyIter_tuple hL
        exact ⟨_, rfl, h⟩
      · wp_walk using wpAny_loadPart' lnT, wpAny_pyIter_tuple hL
        exact ⟨_, rfl, h⟩
    · wp_walk using wpAny_loadPart' lnT, wpAny_pyIter_tuple hL
      exact ⟨_, rfl, h⟩
section
variable {prog : Program} {w : World} {A : Around} {E : Value → Shared → Prop} {s : Shared}
theorem say_call_enumT {l : Addr} {items : Array Value} {Q : Value → Shared → Prop} (hL : s.heap.IsTuple l items)
    (h : ∀ h', IsEnum h' (s.heap.objs.size + 1) s.heap.objs.size 0 .none → h'.IsTupleIter s.heap.objs.size l 0 → h'.objs.size = s.heap.objs.size + 2 →
      (∀ b o, s.heap.get? b = some o → h'.get? b = some o) → Q (.ref (s.heap.objs.size + 1)) { s with heap := h' }) :
    wpAny (model prog w) A (call (.type "enumerate") [.ref l]) Q E s := by
  obtain ⟨o0, lnT, clC, n, dtD⟩ := hL
  refine callType_new F.called_enumerate (by decide) (F.typeCall_enumerate_1 _) (F.newCall_enumerate_1 _) (fun obj => F.args_object_init_2 obj _) F.entry_enumerate_new
    (say_meets_enumT l o0 items n clC dtD) ⟨lnT, ?_⟩
  have szT : (s.heap.push { cls := .type "tuple_iterator", data := .fields #[.ref l, .int 0 0] }).objs.size = s.heap.objs.size + 1 := Heap.size_push ..
  show _ ∧ _
  rw [szT]
  have hEn : IsEnum ((s.heap.push { cls := .type "tuple_iterator", data := .fields #[.ref l, .int 0 0] }).push
      { cls := .type "enumerate", data := .fields #[.none, .bool false, .ref s.heap.objs.size, rawInt 0, .none, .none] }) (s.heap.objs.size + 1) s.heap.objs.size 0 .none := by
    have := Heap.get?_push_size (s.heap.push { cls := .type "tuple_iterator", data := .fields #[.ref l, .int 0 0] })
      (o := { cls := .type "enumerate", data := .fields #[.none, .bool false, .ref s.heap.objs.size, rawInt 0, .none, .none] }) rfl
    rw [szT] at this; exact this
  refine ⟨⟨_, hEn, rfl⟩, h _ hEn ⟨_, Heap.get?_push_of_some _ (Heap.get?_push_size _ rfl), rfl, rfl⟩ (by rw [Heap.size_push, szT]) fun b o x => Heap.get?_push_of_some _ (Heap.get?_push_of_some _ x)⟩
theorem say_enumT_end {e it l : Addr} {i : Nat} {j : Int} {items : Array Value} {was : Value} {Q : Option Value → Shared → Prop} (noH : A.handled = none)
    (hEn : IsEnum s.heap e it j was) (hTi : s.heap.IsTupleIter it l i) (lnT : s.heap.IsTuple l items) (atI0 : items[i]? = none)
    (hQ : ∀ h', Heap.ExtBut it s.heap h' → Q none { s with heap := h' }) : wpAny (model prog w) A (pyNext (.ref e)) Q E s := by
  have isTup : s.TypeIs (.ref e) "enumerate" := ⟨_, hEn, rfl⟩
  unfold pyNext
  refine wpAny_bind (wpAny_attempt (wpAny_callSpecial?_slot (name := Str.ofString "__next__") isTup F.slot_enumerate_next
    (wpAny_call_entry F.slot_enumerate_next isTup F.entry_enumerate_next ?_ (F.args_enumerate_next_1 _))))
  show wpAny _ _ (field (.ref e) 2 >>= _) _ _ _
  refine wpAny_bind (wpAny_field hEn rfl (x := .ref it) rfl ?_)
  refine wpAny_bind (wpAny_nextOf_tuple_end noH hTi lnT atI0 fun h' x he' hx' => ?_)
  obtain ⟨o, obO, clC⟩ := hx'
  refine wpAny_bind (wpAny_isInstance (T := "StopIteration") (b := true) ⟨o, obO, clC⟩ isSubtype_stop ?_)
  exact wpAny_pure (hQ _ he')
end
end PySem
namespace Say
open PySem PySem.Spec PyProof.Rows L2
/-- the tuple at a adrs it stands at each turn, each item in a new pair -/
def IteT (K : PySem.W.Frag) (a : Addr) : It :=
  ⟨fun i H => ∃ (xs : List V) (x : V), SqT K H a xs ∧ xs[i]? = some x, fun i H v H' => ∃ T x, v = .ref T ∧ H T = none ∧ H' = upd H T (.tup [.int (i : Nat), x]) ∧ ∀ xs, SqT K H a xs → xs[i]? = some x, fun i H => ∃ xs : List V, SqT K H a xs ∧ xs.length ≤ i⟩
theorem enum_ne {h : Heap} {e it a : Addr} {i : Int} {was : Value} {items : Array Value} (hEn : IsEnum h e it i was) (isTup : h.IsTuple a items) : e ≠ a := fun z => by
  subst z
  obtain ⟨o, obO, clC, _⟩ := isTup
  have hEn : h.get? e = some _ := hEn
  rw [hEn] at obO
  cases obO
  exact absurd (Value.type.inj clC) (by decide)
theorem tit_ne {h : Heap} {it a : Addr} {i : Nat} {items : Array Value} (hEn : h.IsTupleIter it a i) (isTup : h.IsTuple a items) : a ≠ it := fun z => by
  subst z
  obtain ⟨o, obO, clC, _⟩ := isTup
  obtain ⟨o', ho', hc', _⟩ := hEn
  rw [obO] at ho'
  cases ho'
  rw [clC] at hc'
  exact absurd (Value.type.inj hc') (by decide)
theorem turn_enumT {P : Program} {w : World} {K : PySem.W.Frag} {els : List Expr} {k9 : Nat} {tps0 : Pos} (a e it : Addr) :
    Turn P w K (.Tuple els k9 tps0) (IteT K a) [e, it] e (fun i h => (∃ was, IsEnum h e it ((i : Nat) : Int) was) ∧ h.IsTupleIter it a i ∧ e ≠ it) where
  mem := by simp
  obj := fun i h sta b hb => by
    obtain ⟨⟨was, hEn⟩, ⟨o, obO, clC, dtD⟩, _⟩ := sta
    have e' : b = e ∨ b = it := by simpa using hb
    rcases e' with z | z
    · rw [z]; exact ⟨_, hEn, fun v q => nomatch q⟩
    · rw [z]; exact ⟨o, obO, fun v q => by rw [dtD] at q; cases q⟩
  keep := fun i h h' sta k => let ⟨⟨was, hEn⟩, hi, hAp⟩ := sta; ⟨⟨was, k e (by simp) _ hEn⟩, hi.at fun o q => k it (by simp) o q, hAp⟩
  item := by
    intro X hP hw hK clC i pn s σ H E I fresh0 sta gW
    subst hP hw hK
    obtain ⟨⟨was, hEn⟩, hTi, hAp⟩ := sta
    obtain ⟨xs, x, isT, atI0⟩ := gW
    obtain ⟨its, rel, p, szT⟩ := I.tuple isT
    have p : s.heap.IsTuple a its.toArray := p
    obtain ⟨u, getU, relU⟩ := rel.get atI0
    have ltE : e < s.heap.objs.size := Heap.lt_size hEn
    have ltI : it < s.heap.objs.size := by obtain ⟨_, q, _⟩ := hTi; exact Heap.lt_size q
    have ltN : i < its.toArray.size := by
      have := (List.getElem?_eq_some_iff.mp getU).1
      simpa using this
    refine wpAny_pyNext_enum_itemD (Draws.tuple (show X.A.in1.handled = none from I.ok.hd clC) it a (tit_ne hTi p) its.toArray) hEn ⟨hTi, p⟩ ltN hAp (by
      simp only [List.mem_cons, List.not_mem_nil, or_false, not_or]
      exact ⟨hAp, enum_ne hEn p⟩) fun u' h' tkn hu' obO hst' isTup szH kpT => ?_
    have eu : u' = u := by
      have h1 : its.toArray[i]? = some u' := hu'
      rw [List.getElem?_toArray, getU] at h1
      exact (Option.some.inj h1).symm
    subst eu
    obtain ⟨hit', p'⟩ := hst'
    refine ⟨_, rfl, wpAny_letOwnedTupleGo_enum (s := { s with heap := h', toks := tkn + 1 }) obO fun h'' he' butE => ?_⟩
    have hT2 : h''.get? s.heap.objs.size = some { cls := .type "tuple", data := .seq #[.int i tkn, u'] } := (butE.2 _ (Nat.ne_of_gt ltE)).trans isTup
    have new : ObjOk X.prog X.w (upd H s.heap.objs.size (.tup [.int (i : Nat), x])) h'' s.heap.objs.size (.tup [.int (i : Nat), x]) :=
      ⟨by show 2 ≤ sizeLine; decide, [.int i tkn, u'], .cons ⟨_, rfl⟩ (.cons relU .nil), ⟨_, hT2, rfl, _, rfl⟩⟩
    have I1 : Inv X pn σ (upd H s.heap.objs.size (.tup [.int (i : Nat), x])) { s with heap := h'', toks := tkn + 1 } :=
      I.turnedNew (ch := [e, it]) (fun b ob hb q => (butE.2 b (fun z => hb (by simp [z]))).trans (kpT b ob (fun z => hb (by simp [z])) (fun z => hb (by simp [z])) q)) fresh0 (Nat.le_refl _) new
    refine ⟨.ref s.heap.objs.size, _, I1, rfl, ⟨_, x, rfl, I.hok.fresh (Nat.le_refl _), rfl, fun ys hy => by rw [I.tuple_inj hy isT]; exact atI0⟩, ⟨⟨u', ?_⟩, hit'.at fun o q => (butE.2 it (Ne.symm hAp)).trans q, hAp⟩, fun b hb => ?_⟩
    · have q1 : ((i + 1 : Nat) : Int) = (i : Int) + 1 := by omega
      rw [q1]; exact he'
    · have hb' : b < s.heap.objs.size := by
        have e' : b = e ∨ b = it := by simpa using hb
        rcases e' with z | z
        · rw [z]; exact ltE
        · rw [z]; exact ltI
      rw [upd_ne (Nat.ne_of_lt hb')]
      exact (fresh0 b hb).1
  done := by
    intro X hP hw hK clC i pn s σ H E I fresh0 sta gW
    subst hP hw hK
    obtain ⟨⟨was, hEn⟩, hTi, hAp⟩ := sta
    obtain ⟨xs, isT, atI0⟩ := gW
    obtain ⟨its, rel, p, szT⟩ := I.tuple isT
    have p : s.heap.IsTuple a its.toArray := p
    obtain ⟨f0, f1, f2, f3, f4, f5⟩ := fresh0 it (by simp)
    have hl := rel.length
    exact say_enumT_end (I.ok.hd clC) hEn hTi p (by rw [List.getElem?_toArray]; exact List.getElem?_eq_none (by omega)) fun h' eb => ⟨rfl, I.turned (t' := s.toks) (fun b o hb q => eb b o hb q) f0 f1 f3 f4 f5⟩
  self := fun A i s Q E sta h => let ⟨⟨_, hEn⟩, _⟩ := sta; wpAny_pyIter_enum hEn h
def iEnumT (K : PySem.W.Frag) (ta : TA) : TI := fun σ H R => ta σ H fun vs H1 => ∃ a xs, vs = [.ref a] ∧ SqT K H1 a xs ∧ R (IteT K a) H1
theorem pi_enumT {X : Cx} {e : Expr} {ta : TA} {p pos tps0 : Pos} {els : List Expr} {k9 : Nat} (gW : Gl X "enumerate") (hm : X.mg "enumerate" = none) (atA : PA X [e] ta) (hs : starEach [e] X.env = [(false, eval e X.env)] := by rfl) :
    PI X (.Tuple els k9 tps0) (.Call (.Name "enumerate" p) [e] [] pos) (iEnumT X.K ta) := by
  refine ⟨fun pn s σ H R I h => ?_⟩
  refine Call_ (ld_blt I gW hm boot_enumerate (PyProof.Rows.callWith_type1 (thn (atA.run pos pn s σ H _ I h) fun args s1 ⟨vs, H1, I1, r1, q1⟩ => ?_) hs rfl))
  obtain ⟨a, xs, ex, isT, q⟩ := q1
  subst ex
  cases r1 with
  | cons r rst =>
    cases rst
    cases r
    obtain ⟨its, rel, p', szT⟩ := I1.tuple isT
    refine say_call_enumT (show s1.heap.IsTuple a its.toArray from p') fun h' hEn hTi szH kpT => wpAny_pyIter_enum hEn ?_
    have I2 : Inv X pn σ H1 { s1 with heap := h' } := I1.kept (t' := s1.toks) kpT
    refine ⟨s1.heap.objs.size + 1, [s1.heap.objs.size + 1, s1.heap.objs.size], _, _, H1, rfl, I2, turn_enumT a (s1.heap.objs.size + 1) s1.heap.objs.size, ⟨⟨.none, hEn⟩, hTi, Nat.succ_ne_self _⟩, fun b hb => ?_, q⟩
    have e' : b = s1.heap.objs.size + 1 ∨ b = s1.heap.objs.size := by simpa using hb
    have hle : s1.heap.objs.size ≤ b := by
      rcases e' with z | z
      · rw [z]; exact Nat.le_add_right _ _
      · rw [z]; exact Nat.le_refl _
    exact I1.fpOk hle (I1.hok.fresh hle)
theorem walk_enumT {K : PySem.W.Frag} {a : Addr} {xs : List V} : Walk (IteT K a) xs.length (fun H => SqT K H a xs) (YPair (fun i => some (.int (i : Nat))) (fun i => xs[i]?)) := by
  refine ⟨fun i _ hi q => ⟨xs, xs[i], q, by simp [hi]⟩, fun _ q => ⟨xs, q, Nat.le_refl _⟩, fun i H v H' _ q y => ?_⟩
  obtain ⟨T, x, h1, h2, h3, h4⟩ := y
  exact ⟨T, .int (i : Nat), x, h1, h2, h3, rfl, h4 xs q⟩
end Say
namespace Say
open PySem PySem.Spec PyProof.Rows L2
abbrev Exc := List Nat × List Nat
/-- an exception of a book of the letters L -/
structure ExcOk (L : List Nat) (e : Exc) : Prop where
  w : ∀ c ∈ e.1, c ∈ L
  w1 : 1 ≤ e.1.length
  w8 : e.1.length ≤ 8
  s : ∀ c ∈ e.2, 65 ≤ c ∧ c ≤ 90
  s36 : e.2.length ≤ 36
/-- a tuple as it was made: with no attributes of its own -/
def TupN (H : Hp) (a : Addr) (xs : List V) : Prop := ∃ o : Obj, H a = some (.frz o (.tup xs)) ∧ o.dict = none
theorem TupN.kt {H H' : Hp} {a : Addr} {xs : List V} (h : TupN H a xs) (e : KT H H') : TupN H' a xs := ⟨h.choose, e.2 _ _ _ h.choose_spec.1, h.choose_spec.2⟩
theorem TupN.rd {H : Hp} {a : Addr} {xs : List V} (h : TupN H a xs) : Rd H a (.tup xs) := .inr ⟨_, h.choose_spec.1⟩
def ExcsAt (H : Hp) (X : Addr) (es : List Exc) : Prop := ∃ ts : List Addr, TupN H X (ts.map V.ref) ∧ Paired (fun t (e : Exc) => H t = some (.tup [.str (T e.1), .str (T e.2)])) ts es
theorem ExcsAt.kt {H H' : Hp} {X : Addr} {es : List Exc} (h : ExcsAt H X es) (e : KT H H') : ExcsAt H' X es := by
  obtain ⟨ts, h1, h2⟩ := h
  exact ⟨ts, h1.kt e, paired_mono (fun t ρ q => e.1 _ _ q) h2⟩
structure BookOk (L : List Nat) (rs : List Rule) (es : List Exc) : Prop where
  lt : LetOk L
  rl : ∀ ρ ∈ rs, RuleOk L ρ
  r12 : rs.length ≤ 12
  ex : ∀ e ∈ es, ExcOk L e
  e8 : es.length ≤ 8
  up : es.Pairwise fun e f => e.1 < f.1
def BookAt (H : Hp) (b : Addr) (L : List Nat) (rs : List Rule) (es : List Exc) : Prop := ∃ R X, H b = some (.tup [.str (T L), .ref R, .ref X]) ∧ RulesAt H R rs ∧ ExcsAt H X es
theorem BookAt.kt {H H' : Hp} {b : Addr} {L : List Nat} {rs : List Rule} {es : List Exc} (h : BookAt H b L rs es) (e : KT H H') : BookAt H' b L rs es := by
  obtain ⟨R, X, h1, h2, h3⟩ := h
  exact ⟨R, X, e.1 _ _ h1, h2.kt e, h3.kt e⟩
section
variable {P : Program} {w : World} {K : PySem.W.Frag} {mg : Str → Option Value} {base : Heap}
abbrev sExcd : Stmt := topS 34
theorem scExcd : FnScope ["letters", "word"] ["letters", "word"] (defScope sExcd) := ⟨rfl, rfl, rfl, by decide +kernel, rfl, by decide +kernel, by decide +kernel⟩
def spExcd : Sp := fun vs H Q _ => ∃ (L z : List Nat), vs = [.str (T L), .str (T z)] ∧ z.length ≤ 100 ∧ ∀ (H' : Hp), Same H H' → Q (.bl (isText z L 1 8)) H'
theorem ok_excd {f : Addr} {fd : FuncData} (F : Fun K "is_excepted" "is_excepted" sExcd f fd) (C : Cn mg) (DT : Df P w K mg base "is_text" psIsText 1 spIsText) :
    FnOk P w K mg base CX0 2 f fd ["letters", "word"] spExcd := by
  obtain ⟨fT, fdT, GT, kT, bT, mT⟩ := DT
  obtain ⟨tX, mX⟩ := C.lexc
  refine F.ok scExcd (fun vs H Q E h => ?_) (fun cdv A outer s H vs Q E hr h => ?_)
  · obtain ⟨L, z, rfl, _⟩ := h
    rfl
  · obtain ⟨L, z, rfl, hl, q⟩ := h
    refine ⟨_, pss_one (ps_ret (pe_call GT hr (by rfl) mT kT bT .nil pass0 (pa_cons (pv 1) (pa_cons (pv 0) (pa_cons pe_int (pa_cons (pe_glob (v := .int 8) rfl mX ⟨_, rfl⟩) pa_nil)))))), ?_⟩
    exact ⟨_, rfl, _, rfl, z, L, 1, 8, rfl, hl, q⟩
abbrev sIsSo : Stmt := topS 35
theorem scIsSo : FnScope ["sounds"] ["sounds"] (defScope sIsSo) := ⟨rfl, rfl, rfl, by decide +kernel, rfl, by decide +kernel, by decide +kernel⟩
def spIsSo : Sp := fun vs H Q _ => ∃ (z : List Nat), vs = [.str (T z)] ∧ z.length ≤ 100 ∧ ∀ (H' : Hp), Same H H' → Q (.bl (isText z capsL 0 36)) H'
theorem ok_isSo {f : Addr} {fd : FuncData} (F : Fun K "is_sounds" "is_sounds" sIsSo f fd) (C : Cn mg) (DT : Df P w K mg base "is_text" psIsText 1 spIsText) :
    FnOk P w K mg base CX0 2 f fd ["sounds"] spIsSo := by
  obtain ⟨fT, fdT, GT, kT, bT, mT⟩ := DT
  obtain ⟨tC, mC⟩ := C.caps
  obtain ⟨tS, mS⟩ := C.lso
  refine F.ok scIsSo (fun vs H Q E h => ?_) (fun cdv A outer s H vs Q E hr h => ?_)
  · obtain ⟨z, rfl, _⟩ := h
    rfl
  · obtain ⟨z, rfl, hl, q⟩ := h
    refine ⟨_, pss_one (ps_ret (pe_call GT hr (by rfl) mT kT bT .nil pass0 (pa_cons (pv 0) (pa_cons (pe_glob (v := .str "ABCDEFGHIJKLMNOPQRSTUVWXYZ") rfl mC ⟨_, rfl⟩) (pa_cons pe_int (pa_cons (pe_glob (v := .int 36) rfl mS ⟨_, rfl⟩) pa_nil)))))), ?_⟩
    exact ⟨_, rfl, z, capsL, 0, 36, (by rw [caps_eq]; rfl), hl, q⟩
abbrev sIsExc : Stmt := topS 33
theorem scIsExc : FnScope ["letters", "pair", "word", "sounds"] ["letters", "pair"] (defScope sIsExc) := ⟨rfl, rfl, rfl, by decide +kernel, rfl, by decide +kernel, by decide +kernel⟩
def spIsExc : Sp := fun vs H Q _ => ∃ (L : List Nat) (t : Addr) (e : Exc), vs = [.str (T L), .ref t] ∧ H t = some (.tup [.str (T e.1), .str (T e.2)]) ∧ ExcOk L e ∧ ∀ (H' : Hp), Same H H' → Q (.bl true) H'
theorem ok_isExc {f : Addr} {fd : FuncData} (F : Fun K "is_exception" "is_exception" sIsExc f fd) (B : Bn mg) (DX : Df P w K mg base "is_excepted" ["letters", "word"] 2 spExcd) (DS : Df P w K mg base "is_sounds" ["sounds"] 2 spIsSo) :
    FnOk P w K mg base CX0 3 f fd ["letters", "pair"] spIsExc := by
  obtain ⟨fX, fdX, GX, kX, bX, mX⟩ := DX
  obtain ⟨fS, fdS, GS, kS, bS, mS⟩ := DS
  refine F.ok scIsExc (fun vs H Q E h => ?_) (fun cdv A outer s H vs Q E hr h => ?_)
  · obtain ⟨L, t, e, rfl, _⟩ := h
    rfl
  · obtain ⟨L, t, e, rfl, ht, ho, q⟩ := h
    refine ⟨_, pss_cons (ps_if (PW.pt (pw_or (pt_not (pt_val (pe_callB call_isi (by rfl) B.isi (by decide +kernel) (pa_cons (pv 1) (pa_cons (pe_bltn (v := .ty "tuple") rfl B.tup (by decide +kernel) rfl) pa_nil)))))
          (pw_or1 (pt_cmpR op_ne (pe_callB call_len (by rfl) B.len PySem.boot_len (pa_cons (pv 1) pa_nil)) pe_int (nomark _))))) (pss_one (ps_ret pe_bl)) pss_nil)
      (pss_cons (ps_asg (pv 1) (pg_tup (by rfl) (pgs_cons (pg_name (i := 2) scIsExc.nd rfl (.inl rfl)) (pgs_cons (pg_name (i := 3) scIsExc.nd rfl (.inl rfl)) pgs_nil))))
      (pss_one (ps_ret (pe_and (pe_call GX hr (by rfl) mX kX bX .nil pass0 (pa_cons (pv 0) (pa_cons (pv 2) pa_nil)))
        (pe_one (pe_call GS hr (by rfl) mS kS bS .nil pass0 (pa_cons (pv 3) pa_nil))))))), ?_⟩
    refine ⟨_, rfl, _, _, .type "tuple", _, true, rfl, ClsV.ty _, .base (.tup ht), kit_ty (by decide +kernel), true, rfl, iteF ?_⟩
    refine ⟨_, rfl, _, 2, rfl, .inr ⟨_, .inl (.inl ht), rfl⟩, rfl, _, rfl, iteF ?_⟩
    refine ⟨_, rfl, t, _, rfl, .inl (.inl ht), rfl, _, _, rfl, _, _, rfl, rfl, ?_⟩
    refine ⟨_, rfl, _, rfl, L, e.1, rfl, (by have := ho.w8; omega), fun H1 s1 => ?_⟩
    refine ⟨_, rfl, ?_⟩
    rw [isText_of ho.w1 ho.w8 ho.w]
    refine iteT ?_
    refine ⟨_, rfl, e.2, rfl, (by have := ho.s36; omega), fun H4 s4 => ?_⟩
    rw [isText_of (Nat.zero_le _) ho.s36 fun c hc => mem_caps (ho.s c hc)]
    exact q H4 (s1.trans s4)
abbrev sChL : Stmt := topS 28
theorem scChL : FnScope ["letters"] ["letters"] (defScope sChL) := ⟨rfl, rfl, rfl, by decide +kernel, rfl, by decide +kernel, by decide +kernel⟩
def spChL : Sp := fun vs H Q _ => ∃ (L : List Nat), vs = [.str (T L)] ∧ LetOk L ∧ ∀ (H' : Hp), Same H H' → Q .non H'
theorem ok_chL {f : Addr} {fd : FuncData} (F : Fun K "check_letters" "check_letters" sChL f fd) (C : Cn mg) (DT : Df P w K mg base "is_text" psIsText 1 spIsText) (DR : Df P w K mg base "is_rising" ["text"] 1 spRise) :
    FnOk P w K mg base CX0 2 f fd ["letters"] spChL := by
  obtain ⟨fT, fdT, GT, kT, bT, mT⟩ := DT
  obtain ⟨fR, fdR, GR, kR, bR, mR⟩ := DR
  obtain ⟨tS, mS⟩ := C.small
  refine F.ok scChL (fun vs H Q E h => ?_) (fun cdv A outer s H vs Q E hr h => ?_)
  · obtain ⟨L, rfl, _⟩ := h
    rfl
  · obtain ⟨L, rfl, hL, q⟩ := h
    refine ⟨_, pss_one (ps_if (PW.pt (pw_or (pt_not (pt_val (pe_call GT hr (by rfl) mT kT bT .nil pass0 (pa_cons (pv 0) (pa_cons (pe_glob (v := .str "abcdefghijklmnopqrstuvwxyz") rfl mS ⟨_, rfl⟩) (pa_cons pe_int (pa_cons pe_int pa_nil)))))))
        (pw_or1 (pt_not (pt_val (pe_call GR hr (by rfl) mR kR bR .nil pass0 (pa_cons (pv 0) pa_nil))))))) (pss_one ps_never) pss_nil), ?_⟩
    have l4 := hL.l4
    refine ⟨_, rfl, L, smallL, 2, 4, (by rw [small_eq]; rfl), by omega, fun H1 s1 => ?_⟩
    rw [isText_of hL.l2 hL.l4 fun c hc => mem_small (hL.az c hc)]
    refine ⟨true, rfl, iteF ?_⟩
    refine ⟨_, rfl, L, rfl, by omega, fun H2 s2 => ?_⟩
    rw [hL.up]
    refine ⟨true, rfl, iteF ?_⟩
    exact q H2 (s1.trans s2)
abbrev sChR : Stmt := topS 29
theorem scChR : FnScope ["letters", "rules", "number", "rule"] ["letters", "rules"] (defScope sChR) := ⟨rfl, rfl, rfl, by decide +kernel, rfl, by decide +kernel, by decide +kernel⟩
def spChR : Sp := fun vs H Q _ => ∃ (L : List Nat) (R : Addr) (rs : List Rule), vs = [.str (T L), .ref R] ∧ LetOk L ∧ RulesAt H R rs ∧ (∀ ρ ∈ rs, RuleOk L ρ) ∧ rs.length ≤ 12 ∧ ∀ (H' : Hp), Same H H' → Q .non H'
theorem ok_chR {f : Addr} {fd : FuncData} (F : Fun K "check_rules" "check_rules" sChR f fd) (B : Bn mg) (C : Cn mg) (DI : Df P w K mg base "is_rule" ["letters", "rule"] 3 spIsRule) :
    FnOk P w K mg base CX0 4 f fd ["letters", "rules"] spChR := by
  obtain ⟨fI, fdI, GI, kI, bI, mI⟩ := DI
  obtain ⟨tS, mS⟩ := C.mrul
  refine F.ok scChR (fun vs H Q E h => ?_) (fun cdv A outer s H vs Q E hr h => ?_)
  · obtain ⟨L, R, rs, rfl, _⟩ := h
    rfl
  · obtain ⟨L, R, rs, rfl, hL, ⟨ts, hR, hp⟩, ho, h12, q⟩ := h
    refine ⟨_, pss_cons (ps_if (pt_not (pt_val (pe_callB call_isi (by rfl) B.isi (by decide +kernel) (pa_cons (pv 1) (pa_cons (pe_bltn (v := .ty "tuple") rfl B.tup (by decide +kernel) rfl) pa_nil))))) (pss_one ps_never) pss_nil)
      (pss_one (ps_for PassesOwn.never rfl (pi_enumT (by rfl) B.enu (pa_cons (pv 1) pa_nil)) (pg_tup (by rfl) (pgs_cons (pg_name (i := 2) scChR.nd rfl (.inl rfl)) (pgs_cons (pg_name (i := 3) scChR.nd rfl (.inl rfl)) pgs_nil)))
        (pss_one (ps_if (PW.pt (pw_or (pt_cmpR op_eq (pv 2) (pe_glob (v := .int 12) rfl mS ⟨_, rfl⟩) (nomark _)) (pw_or1 (pt_not (pt_val (pe_call GI hr (by rfl) mI kI bI .nil pass0 (pa_cons (pv 0) (pa_cons (pv 3) pa_nil)))))))) (pss_one ps_never) pss_nil)))), ?_⟩
    refine ⟨_, rfl, _, _, .type "tuple", _, true, rfl, ClsV.ty _, .base (.tup hR), kit_ty (by decide +kernel), true, rfl, iteF ?_⟩
    refine ⟨_, rfl, R, _, rfl, .inl (.inl hR), for_it (walk_enumT (xs := ts.map V.ref)) (fun i σ H2 => Same H H2 ∧ ∃ v2 v3, σ = [some (.str (T L)), some (.ref R), v2, v3]) ⟨Same.refl H, _, _, rfl⟩ (fun i σ H2 _ h => .inl (.inl (h.1 _ _ hR))) ?_ ?_⟩
    · rintro i x σ H2 H3 hi ⟨s2, v2, v3, rfl⟩ ⟨t, x1, x2, rfl, ht, rfl, g1, g2⟩
      cases g1
      have g2 : (ts.map V.ref)[i]? = some x2 := g2
      rw [List.getElem?_map] at g2
      obtain ⟨a, ha, e⟩ := Option.map_eq_some_iff.mp g2
      subst e
      obtain ⟨ρ, hρ, hat⟩ := paired_at hp ha
      have sm := same_new ht (.tup [.int (i : Nat), .ref a])
      have hi2 : i < rs.length := (List.getElem?_eq_some_iff.mp hρ).1
      refine ⟨t, _, rfl, .inl (.inl upd_same), rfl, _, _, rfl, _, _, rfl, rfl, ?_⟩
      refine ⟨_, rfl, rfl, _, rfl, ?_⟩
      have nq : ¬ V.int ((i : Nat) : Int) = V.int 12 := fun z => by
        have := V.int.inj z
        omega
      rw [decide_eq_false nq]
      refine iteF ?_
      refine ⟨_, rfl, _, rfl, L, a, ρ, rfl, sm _ _ (s2 _ _ hat), hL, ho ρ (List.mem_of_getElem? hρ), fun H4 s4 => ?_⟩
      exact ⟨true, rfl, iteF ⟨s2.trans (sm.trans s4), _, _, rfl⟩⟩
    · rintro σ H2 ⟨s2, v2, v3, rfl⟩
      exact q H2 s2
end
end Say
namespace Say
open PySem PySem.Spec PyProof.Rows L2
section
variable {P : Program} {w : World} {K : PySem.W.Frag} {mg : Str → Option Value} {base : Heap}
abbrev sChE : Stmt := topS 30
theorem scChE : FnScope ["letters", "exceptions", "last", "number", "pair"] ["letters", "exceptions"] (defScope sChE) := ⟨rfl, rfl, rfl, by decide +kernel, rfl, by decide +kernel, by decide +kernel⟩
def spChE : Sp := fun vs H Q _ => ∃ (L : List Nat) (X : Addr) (es : List Exc), vs = [.str (T L), .ref X] ∧ ExcsAt H X es ∧ (∀ e ∈ es, ExcOk L e) ∧ es.length ≤ 8 ∧ (es.Pairwise fun e f => e.1 < f.1) ∧ ∀ (H' : Hp), Same H H' → Q .non H'
theorem ok_chE {f : Addr} {fd : FuncData} (F : Fun K "check_exceptions" "check_exceptions" sChE f fd) (B : Bn mg) (cM : KI mg "MOST_EXCEPTIONS" 8) (DI : Df P w K mg base "is_exception" ["letters", "pair"] 3 spIsExc) :
    FnOk P w K mg base CX0 4 f fd ["letters", "exceptions"] spChE := by
  obtain ⟨fI, fdI, GI, kI, bI, mI⟩ := DI
  obtain ⟨tS, mS⟩ := cM
  refine F.ok scChE (fun vs H Q E h => ?_) (fun cdv A outer s H vs Q E hr h => ?_)
  · obtain ⟨L, X, es, rfl, _⟩ := h
    rfl
  · obtain ⟨L, X, es, rfl, ⟨ts, hX, hp⟩, ho, h8, up, q⟩ := h
    refine ⟨_, pss_cons (ps_if (pt_not (pt_val (pe_callB call_isi (by rfl) B.isi (by decide +kernel) (pa_cons (pv 1) (pa_cons (pe_bltn (v := .ty "tuple") rfl B.tup (by decide +kernel) rfl) pa_nil))))) (pss_one ps_never) pss_nil)
      (pss_cons (ps_set (i := 2) scChE.nd rfl (.inl rfl) pe_str)
      (pss_one (ps_for PassesOwn.never rfl (pi_enumT (by rfl) B.enu (pa_cons (pv 1) pa_nil)) (pg_tup (by rfl) (pgs_cons (pg_name (i := 3) scChE.nd rfl (.inl rfl)) (pgs_cons (pg_name (i := 4) scChE.nd rfl (.inl rfl)) pgs_nil)))
        (pss_cons (ps_if (PW.pt (pw_or (pt_cmpR op_eq (pv 3) (pe_glob (v := .int 8) rfl mS ⟨_, rfl⟩) (nomark _)) (pw_or (pt_not (pt_val (pe_call GI hr (by rfl) mI kI bI .nil pass0 (pa_cons (pv 0) (pa_cons (pv 4) pa_nil)))))
            (pw_or1 (pt_cmpR op_le_str (pe_ix ix_tup (pv 4) pe_int (fun _ _ => rfl)) (pv 2) (nomark _)))))) (pss_one ps_never) pss_nil)
        (pss_one (ps_set (i := 2) scChE.nd rfl (.inl rfl) (pe_ix ix_tup (pv 4) pe_int (fun _ _ => rfl)))))))), ?_⟩
    refine ⟨_, rfl, _, _, .type "tuple", _, true, rfl, ClsV.ty _, .fTuple hX.choose_spec.1, kit_ty (by decide +kernel), true, rfl, iteF ?_⟩
    refine ⟨_, rfl, X, _, rfl, .inl hX.rd, for_it (walk_enumT (xs := ts.map V.ref)) (fun i σ H2 => Same H H2 ∧ ∃ l v3 v4, σ = [some (.str (T L)), some (.ref X), some (.str (T l)), v3, v4] ∧ ∀ e, es[i]? = some e → l < e.1) ⟨Same.refl H, [], _, _, by rw [← show Str.ofString "" = T [] from nil_eq]; rfl, fun e he => ?_⟩ (fun i σ H2 _ h => .inl (hX.kt (.of h.1)).rd) ?_ ?_⟩
    · have := (ho e (List.mem_of_getElem? he)).w1
      cases h : e.1 with
      | nil => rw [h] at this; exact absurd this (by decide)
      | cons a r => exact List.Lex.nil
    · rintro i x σ H2 H3 hi ⟨s2, l, v3, v4, rfl, hlt⟩ ⟨t, x1, x2, rfl, ht, rfl, g1, g2⟩
      cases g1
      have g2 : (ts.map V.ref)[i]? = some x2 := g2
      rw [List.getElem?_map] at g2
      obtain ⟨a, ha, e⟩ := Option.map_eq_some_iff.mp g2
      subst e
      obtain ⟨e, he, hat⟩ := paired_at hp ha
      have sm := same_new ht (.tup [.int (i : Nat), .ref a])
      have hi2 : i < es.length := (List.getElem?_eq_some_iff.mp he).1
      refine ⟨t, _, rfl, .inl (.inl upd_same), rfl, _, _, rfl, _, _, rfl, rfl, ?_⟩
      refine ⟨_, rfl, rfl, _, rfl, ?_⟩
      have nq : ¬ V.int ((i : Nat) : Int) = V.int 8 := fun z => by
        have := V.int.inj z
        omega
      rw [decide_eq_false nq]
      refine iteF ?_
      refine ⟨_, rfl, _, rfl, L, a, e, rfl, sm _ _ (s2 _ _ hat), ho e (List.mem_of_getElem? he), fun H4 s4 => ?_⟩
      have hat4 := s4 _ _ (sm _ _ (s2 _ _ hat))
      refine ⟨true, rfl, iteF ?_⟩
      refine ⟨_, rfl, a, _, 0, .str (T e.1), rfl, rfl, .inl (.inl hat4), atI_nat (j := 0) rfl, _, rfl, _, _, rfl, rfl, _, rfl, ?_⟩
      have lt := hlt e he
      rw [show decide ((T l).cps.toList < (T e.1).cps.toList) = true from decide_eq_true lt]
      refine iteF ?_
      refine ⟨_, rfl, a, _, 0, .str (T e.1), rfl, rfl, .inl (.inl hat4), atI_nat (j := 0) rfl, ?_⟩
      refine ⟨s2.trans (sm.trans s4), e.1, _, _, rfl, fun e' he' => ?_⟩
      exact (List.pairwise_iff_getElem.mp up) i (i + 1) hi2 (List.getElem?_eq_some_iff.mp he').1 (Nat.lt_succ_self _) |> fun h => by
        rw [(List.getElem?_eq_some_iff.mp he).2, (List.getElem?_eq_some_iff.mp he').2] at h
        exact h
    · rintro σ H2 ⟨s2, l, v3, v4, rfl, _⟩
      exact q H2 s2
abbrev sCh : Stmt := topS 27
theorem scCh : FnScope ["book", "letters", "rules", "exceptions"] ["book"] (defScope sCh) := ⟨rfl, rfl, rfl, by decide +kernel, rfl, by decide +kernel, by decide +kernel⟩
def spCh : Sp := fun vs H Q _ => ∃ (b : Addr) (L : List Nat) (rs : List Rule) (es : List Exc), vs = [.ref b] ∧ BookAt H b L rs es ∧ BookOk L rs es ∧ ∀ (H' : Hp), Same H H' → Q (.ref b) H'
theorem ok_ch {f : Addr} {fd : FuncData} (F : Fun K "checked_book" "checked_book" sCh f fd) (B : Bn mg) (DL : Df P w K mg base "check_letters" ["letters"] 2 spChL) (DR : Df P w K mg base "check_rules" ["letters", "rules"] 4 spChR)
    (DE : Df P w K mg base "check_exceptions" ["letters", "exceptions"] 4 spChE) : FnOk P w K mg base CX0 5 f fd ["book"] spCh := by
  obtain ⟨fL, fdL, GL, kL, bL, mL⟩ := DL
  obtain ⟨fR, fdR, GR, kR, bR, mR⟩ := DR
  obtain ⟨fE, fdE, GE, kE, bE, mE⟩ := DE
  refine F.ok scCh (fun vs H Q E h => ?_) (fun cdv A outer s H vs Q E hr h => ?_)
  · obtain ⟨b, L, rs, es, rfl, _⟩ := h
    rfl
  · obtain ⟨b, L, rs, es, rfl, ⟨R, X, hb, hR, hX⟩, ho, q⟩ := h
    refine ⟨_, pss_cons (ps_if (PW.pt (pw_or (pt_not (pt_val (pe_callB call_isi (by rfl) B.isi (by decide +kernel) (pa_cons (pv 0) (pa_cons (pe_bltn (v := .ty "tuple") rfl B.tup (by decide +kernel) rfl) pa_nil)))))
          (pw_or1 (pt_cmpR op_ne (pe_callB call_len (by rfl) B.len PySem.boot_len (pa_cons (pv 0) pa_nil)) pe_int (nomark _))))) (pss_one ps_never) pss_nil)
      (pss_cons (ps_asg (pv 0) (pg_tup (by rfl) (pgs_cons (pg_name (i := 1) scCh.nd rfl (.inl rfl)) (pgs_cons (pg_name (i := 2) scCh.nd rfl (.inl rfl)) (pgs_cons (pg_name (i := 3) scCh.nd rfl (.inl rfl)) pgs_nil)))))
      (pss_cons (ps_expr (pe_call GL (hr.mono (by decide)) (by rfl) mL kL bL .nil pass0 (pa_cons (pv 1) pa_nil)))
      (pss_cons (ps_expr (pe_call GR hr (by rfl) mR kR bR .nil pass0 (pa_cons (pv 1) (pa_cons (pv 2) pa_nil))))
      (pss_cons (ps_expr (pe_call GE hr (by rfl) mE kE bE .nil pass0 (pa_cons (pv 1) (pa_cons (pv 3) pa_nil))))
      (pss_one (ps_ret (pv 0))))))), ?_⟩
    refine ⟨_, rfl, _, _, .type "tuple", _, true, rfl, ClsV.ty _, .base (.tup hb), kit_ty (by decide +kernel), true, rfl, iteF ?_⟩
    refine ⟨_, rfl, _, 3, rfl, .inr ⟨_, .inl (.inl hb), rfl⟩, rfl, _, rfl, iteF ?_⟩
    refine ⟨_, rfl, b, _, rfl, .inl (.inl hb), rfl, _, _, rfl, _, _, rfl, _, _, rfl, rfl, ?_⟩
    refine ⟨_, rfl, L, rfl, ho.lt, fun H1 s1 => ?_⟩
    refine ⟨_, rfl, _, rfl, L, R, rs, rfl, ho.lt, hR.kt (.of s1), ho.rl, ho.r12, fun H2 s2 => ?_⟩
    refine ⟨_, rfl, _, rfl, L, X, es, rfl, hX.kt (.of (s1.trans s2)), ho.ex, ho.e8, ho.up, fun H3 s3 => ?_⟩
    exact ⟨_, rfl, q H3 (s1.trans (s2.trans s3))⟩
end
end Say
namespace Say
open PySem PySem.Spec PyProof.Rows L2
/-! ### books as texts -/
def mkE (z : List Nat) : List Nat := if z = [] then [45] else z
def umE (z : List Nat) : List Nat := if z = [45] then [] else z
theorem um_mk {z : List Nat} (h : 45 ∉ z) : umE (mkE z) = z := by
  unfold umE mkE
  by_cases e : z = []
  · rw [if_pos e, if_pos rfl, e]
  · rw [if_neg e, if_neg (fun c => h (by rw [c]; exact List.mem_singleton.mpr rfl))]
theorem mk_ne (z : List Nat) : mkE z ≠ [] := by
  unfold mkE
  by_cases e : z = []
  · rw [if_pos e]; exact fun c => by cases c
  · rw [if_neg e]; exact e
theorem mk_len (z : List Nat) : (mkE z).length ≤ z.length + 1 := by
  unfold mkE
  by_cases e : z = []
  · rw [if_pos e]; exact Nat.le_add_left _ _
  · rw [if_neg e]; omega
theorem mk_mem {z : List Nat} {c : Nat} (h : c ∈ mkE z) : c ∈ z ∨ c = 45 := by
  unfold mkE at h
  by_cases e : z = []
  · rw [if_pos e] at h; exact .inr (List.mem_singleton.mp h)
  · rw [if_neg e] at h; exact .inl h
def kwL : List Nat := [108, 101, 116, 116, 101, 114, 115]
def kwR : List Nat := [114, 117, 108, 101]
def kwW : List Nat := [119, 111, 114, 100]
theorem kwL_eq : Str.ofString "letters" = T kwL := by decide +kernel
theorem kwR_eq : Str.ofString "rule" = T kwR := by decide +kernel
theorem kwW_eq : Str.ofString "word" = T kwW := by decide +kernel
theorem dash_eq : Str.ofString "-" = T [45] := by decide +kernel
theorem sp_eq : Str.ofString " " = T [32] := by decide +kernel
theorem nl_eq : Str.ofString "\n" = T [10] := by decide +kernel
def ruleRow (ρ : Rule) : List (List Nat) := [kwR, ρ.ah, ρ.ow, ρ.be, ρ.so]
def excRow (e : Exc) : List (List Nat) := [kwW, e.1, e.2]
def rowsM (L : List Nat) (rs : List Rule) (es : List Exc) : List (List (List Nat)) := [kwL, L] :: (rs.map ruleRow ++ es.map excRow)
def markR (r : List (List Nat)) : List (List Nat) := r.map mkE
def wordsM (L : List Nat) (rs : List Rule) (es : List Exc) : List (List (List Nat)) := (rowsM L rs es).map markR
def lineM (r : List (List Nat)) : List Nat := TL.joinL [32] r
def textM (L : List Nat) (rs : List Rule) (es : List Exc) : List Nat := TL.joinL [10] ((wordsM L rs es).map lineM)
theorem join_T (s : List Nat) (ls : List (List Nat)) : Txt.join (T s) (ls.map T) = T (TL.joinL s ls) := by
  refine TL.ext_tl ?_
  rw [TL.join_eq, TL.tl_join]
  show TL.joinL s ((ls.map T).map TL.tl) = TL.joinL s ls
  rw [List.map_map]
  congr 1
  exact List.map_id' ls
theorem split_T {c : Nat} (hc : c < 256) {ls : List (List Nat)} (hne : ls ≠ []) (h : ∀ l ∈ ls, c ∉ l) : Txt.split (T (TL.joinL [c] ls)) (T [c]) = ls.map T := by
  rw [← join_T]
  refine TL.split_join (s := c) (S := []) rfl (by simp [hc]) (fun e => hne (List.map_eq_nil_iff.mp e)) fun p hp => ?_
  obtain ⟨l, hl, rfl⟩ := List.mem_map.mp hp
  exact h l hl
theorem joinL_len (s : List Nat) : ∀ ls : List (List Nat), (TL.joinL s ls).length ≤ (ls.map List.length).sum + ls.length * s.length
  | [] => Nat.zero_le _
  | [p] => by
    show p.length ≤ p.length + 0 + (0 + 1) * s.length
    omega
  | p :: q :: r => by
    have ih := joinL_len s (q :: r)
    show (p ++ (s ++ TL.joinL s (q :: r))).length ≤ p.length + ((q :: r).map List.length).sum + ((q :: r).length + 1) * s.length
    rw [List.length_append, List.length_append, Nat.add_mul]
    omega
theorem joinL_mem {s : List Nat} {c : Nat} : ∀ {ls : List (List Nat)}, c ∈ TL.joinL s ls → c ∈ s ∨ ∃ l ∈ ls, c ∈ l
  | [], h => by cases h
  | [p], h => .inr ⟨p, List.mem_singleton.mpr rfl, h⟩
  | p :: q :: r, h => by
    have h : c ∈ p ++ (s ++ TL.joinL s (q :: r)) := h
    rcases List.mem_append.mp h with h | h
    · exact .inr ⟨p, List.mem_cons_self .., h⟩
    · rcases List.mem_append.mp h with h | h
      · exact .inl h
      · rcases joinL_mem h with h | ⟨l, hl, h⟩
        · exact .inl h
        · exact .inr ⟨l, List.mem_cons_of_mem _ hl, h⟩
theorem sum_le {n : Nat} : ∀ {ls : List Nat}, (∀ x ∈ ls, x ≤ n) → ls.sum ≤ ls.length * n
  | [], _ => Nat.zero_le _
  | x :: r, h => by
    have h1 := h x (List.mem_cons_self ..)
    have h2 := sum_le (n := n) (ls := r) fun y hy => h y (List.mem_cons_of_mem _ hy)
    rw [List.sum_cons, List.length_cons, Nat.add_mul]
    omega
/-- what a row's words are like -/
structure RowOk (r : List (List Nat)) : Prop where
  l1 : 1 ≤ r.length
  l5 : r.length ≤ 5
  w : ∀ z ∈ r, z.length ≤ 36
  c : ∀ z ∈ r, ∀ c ∈ z, c ≠ 45 ∧ c ≠ 32 ∧ c ≠ 10 ∧ c < 256
theorem sub_side {L z : List Nat} (hL : LetOk L) (s : z.Sublist (35 :: L)) : ∀ c ∈ z, c ≠ 45 ∧ c ≠ 32 ∧ c ≠ 10 ∧ c < 256 := fun c hc => by
  rcases List.mem_cons.mp (s.subset hc) with h | h
  · subst h; exact ⟨by decide, by decide, by decide, by decide⟩
  · have := hL.az c h; exact ⟨by omega, by omega, by omega, by omega⟩
theorem caps_sign {z : List Nat} (h : ∀ c ∈ z, 65 ≤ c ∧ c ≤ 90) : ∀ c ∈ z, c ≠ 45 ∧ c ≠ 32 ∧ c ≠ 10 ∧ c < 256 := fun c hc => by
  have := h c hc; exact ⟨by omega, by omega, by omega, by omega⟩
theorem let_sign {L z : List Nat} (hL : LetOk L) (h : ∀ c ∈ z, c ∈ L) : ∀ c ∈ z, c ≠ 45 ∧ c ≠ 32 ∧ c ≠ 10 ∧ c < 256 := fun c hc => by
  have := hL.az c (h c hc); exact ⟨by omega, by omega, by omega, by omega⟩
theorem kw_sign {z : List Nat} (h : z = kwL ∨ z = kwR ∨ z = kwW) : ∀ c ∈ z, c ≠ 45 ∧ c ≠ 32 ∧ c ≠ 10 ∧ c < 256 := by
  rcases h with rfl | rfl | rfl <;> decide
theorem ruleRow_ok {L : List Nat} {ρ : Rule} (hL : LetOk L) (h : RuleOk L ρ) : RowOk (ruleRow ρ) := by
  have l4 := hL.l4
  have l5 := h.ah.length_le
  have l6 := h.be.length_le
  rw [List.length_cons] at l5 l6
  have o2 := h.o2
  have s3 := h.s3
  refine ⟨(by show 1 ≤ 5; decide), (by show 5 ≤ 5; decide), fun z hz => ?_, fun z hz => ?_⟩ <;> (simp only [ruleRow, List.mem_cons, List.not_mem_nil, or_false] at hz)
  · rcases hz with rfl | rfl | rfl | rfl | rfl
    · decide
    all_goals omega
  · rcases hz with rfl | rfl | rfl | rfl | rfl
    · exact kw_sign (.inr (.inl rfl))
    · exact sub_side hL h.ah
    · exact let_sign hL h.ow
    · exact sub_side hL h.be
    · exact caps_sign h.so
theorem excRow_ok {L : List Nat} {e : Exc} (hL : LetOk L) (h : ExcOk L e) : RowOk (excRow e) := by
  have w8 := h.w8
  have s36 := h.s36
  refine ⟨(by show 1 ≤ 3; decide), (by show 3 ≤ 5; decide), fun z hz => ?_, fun z hz => ?_⟩ <;> (simp only [excRow, List.mem_cons, List.not_mem_nil, or_false] at hz)
  · rcases hz with rfl | rfl | rfl
    · decide
    all_goals omega
  · rcases hz with rfl | rfl | rfl
    · exact kw_sign (.inr (.inr rfl))
    · exact let_sign hL h.w
    · exact caps_sign h.s
theorem letRow_ok {L : List Nat} (hL : LetOk L) : RowOk [kwL, L] := by
  have l4 := hL.l4
  refine ⟨(by show 1 ≤ 2; decide), (by show 2 ≤ 5; decide), fun z hz => ?_, fun z hz => ?_⟩ <;> (simp only [List.mem_cons, List.not_mem_nil, or_false] at hz)
  · rcases hz with rfl | rfl
    · decide
    · omega
  · rcases hz with rfl | rfl
    · exact kw_sign (.inl rfl)
    · exact let_sign hL fun c h => h
theorem rows_ok {L : List Nat} {rs : List Rule} {es : List Exc} (h : BookOk L rs es) : ∀ r ∈ rowsM L rs es, RowOk r := fun r hr => by
  unfold rowsM at hr
  rcases List.mem_cons.mp hr with rfl | hr
  · exact letRow_ok h.lt
  rcases List.mem_append.mp hr with hr | hr
  · obtain ⟨ρ, hρ, rfl⟩ := List.mem_map.mp hr
    exact ruleRow_ok h.lt (h.rl ρ hρ)
  · obtain ⟨e, he, rfl⟩ := List.mem_map.mp hr
    exact excRow_ok h.lt (h.ex e he)
theorem rows_len {L : List Nat} {rs : List Rule} {es : List Exc} (h : BookOk L rs es) : (rowsM L rs es).length ≤ 21 := by
  have := h.r12
  have := h.e8
  unfold rowsM
  rw [List.length_cons, List.length_append, List.length_map, List.length_map]
  omega
theorem mark_len {r : List (List Nat)} (h : RowOk r) : ((markR r).map List.length).sum ≤ 185 := by
  have h5 := h.l5
  refine Nat.le_trans (sum_le (n := 37) fun x hx => ?_) ?_
  · obtain ⟨z, hz, rfl⟩ := List.mem_map.mp hx
    obtain ⟨y, hy, rfl⟩ := List.mem_map.mp hz
    exact Nat.le_trans (mk_len y) (Nat.succ_le_succ (h.w y hy))
  · unfold markR
    rw [List.length_map, List.length_map]
    omega
theorem line_len {r : List (List Nat)} (h : RowOk r) : (lineM (markR r)).length ≤ 190 := by
  have h1 := joinL_len [32] (markR r)
  have h2 := mark_len h
  have h5 := h.l5
  unfold lineM
  have e : (markR r).length = r.length := by unfold markR; rw [List.length_map]
  rw [e] at h1
  have : r.length * [32].length = r.length := Nat.mul_one _
  omega
theorem lines_len {L : List Nat} {rs : List Rule} {es : List Exc} (h : BookOk L rs es) : (((wordsM L rs es).map lineM).map List.length).sum ≤ 3990 := by
  have hl := rows_len h
  refine Nat.le_trans (sum_le (n := 190) fun x hx => ?_) ?_
  · obtain ⟨z, hz, rfl⟩ := List.mem_map.mp hx
    obtain ⟨y, hy, rfl⟩ := List.mem_map.mp hz
    obtain ⟨r, hr, rfl⟩ := List.mem_map.mp hy
    exact line_len (rows_ok h r hr)
  · unfold wordsM
    rw [List.length_map, List.length_map, List.length_map]
    omega
theorem text_len {L : List Nat} {rs : List Rule} {es : List Exc} (h : BookOk L rs es) : (textM L rs es).length ≤ 4011 := by
  have h1 := joinL_len [10] ((wordsM L rs es).map lineM)
  have h2 := lines_len h
  have hl := rows_len h
  unfold textM
  have e : ((wordsM L rs es).map lineM).length = (rowsM L rs es).length := by unfold wordsM; rw [List.length_map, List.length_map]
  rw [e] at h1
  have : (rowsM L rs es).length * [10].length = (rowsM L rs es).length := Nat.mul_one _
  omega
theorem mark_sign {r : List (List Nat)} (h : RowOk r) : ∀ z ∈ markR r, ∀ c ∈ z, c ≠ 32 ∧ c ≠ 10 ∧ c < 256 := fun z hz c hc => by
  obtain ⟨y, hy, rfl⟩ := List.mem_map.mp hz
  rcases mk_mem hc with hc | hc
  · have := h.c y hy c hc; exact ⟨this.2.1, this.2.2.1, this.2.2.2⟩
  · subst hc; exact ⟨by decide, by decide, by decide⟩
/-- the text, cut at the ends of its rows -/
theorem split_rows {L : List Nat} {rs : List Rule} {es : List Exc} (h : BookOk L rs es) : Txt.split (T (textM L rs es)) (T [10]) = ((wordsM L rs es).map lineM).map T := by
  refine split_T (by decide) (fun e => by unfold wordsM rowsM at e; cases e) fun l hl hc => ?_
  obtain ⟨z, hz, rfl⟩ := List.mem_map.mp hl
  obtain ⟨r, hr, rfl⟩ := List.mem_map.mp hz
  rcases joinL_mem hc with hc | ⟨y, hy, hc⟩
  · revert hc; decide
  · exact (mark_sign (rows_ok h r hr) y hy 10 hc).2.1 rfl
/-- a row, cut at its blanks -/
theorem split_row {r : List (List Nat)} (h : RowOk r) : Txt.split (T (lineM (markR r))) (T [32]) = (markR r).map T := by
  refine split_T (by decide) (fun e => ?_) fun l hl hc => ?_
  · have := h.l1
    unfold markR at e
    rw [List.map_eq_nil_iff.mp e] at this
    exact absurd this (by decide)
  · exact (mark_sign h l hl 32 hc).1 rfl
theorem row_back {r : List (List Nat)} (h : RowOk r) : (markR r).map umE = r := by
  unfold markR
  rw [List.map_map]
  have : ∀ l : List (List Nat), (∀ z ∈ l, 45 ∉ z) → l.map (umE ∘ mkE) = l := by
    intro l hl
    induction l with
    | nil => rfl
    | cons z t ih =>
      rw [List.map_cons, ih fun y hy => hl y (List.mem_cons_of_mem _ hy)]
      show umE (mkE z) :: t = z :: t
      rw [um_mk (hl z (List.mem_cons_self ..))]
  exact this r fun z hz hc => (h.c z hz 45 hc).1 rfl
theorem mk_id {z : List Nat} (h : z ≠ []) : mkE z = z := if_neg h
end Say
namespace Say
open PySem PySem.Spec PyProof.Rows L2
/-- a written dict: what stands at a key, or none -/
def KGt (K : PySem.W.Frag) (w : World) (a : Addr) (x : Str) (v : V) : Prop :=
  ∃ es n r, K.lookup a = some ⟨.type "dict", none, .dict es n, #[]⟩ ∧ PySem.W.KeysLit w.params es.toList ∧ (a == sysModules) = false ∧ PySem.W.nsIn K a x = some r ∧ RelV v (r.getD .none)
section
variable {X : Cx} {o e : Expr} {apos cpos : Pos} {td ty : TE} {d : Addr}
/-- d.get(x) of a written dict -/
def tKGet (K : PySem.W.Frag) (w : World) (d : Addr) (td ty : TE) : TE := fun σ H Q => td σ H fun x H1 => x = .ref d ∧ ty σ H1 fun y H2 => ∃ (z : Str) (v : V), y = .str z ∧ KGt K w d z v ∧ Q v H2
theorem pe_kget {es : Array DictEntry} {n : Nat} (hl : X.K.lookup d = some ⟨.type "dict", none, .dict es n, #[]⟩) (hk : PySem.W.KeysLit X.w.params es.toList) (ho : PE X o td) (he : PE X e ty) (m : M1 X o "get" apos e cpos) :
    PE X (.Call (.Attribute o "get" apos) [e] [] cpos) (tKGet X.K X.w d td ty) := by
  refine ⟨fun pins s σ H Q I h => ?_⟩
  refine wpAny_Call_method m.base m.few m.line PySem.F.plainAttrs_dict PySem.F.slot_dict_get PySem.F.type_dict_get (thn (ho.run pins s σ H _ I h) fun u s1 ⟨x, H1, I1, rx, ex, q1⟩ => ?_)
  subst ex
  obtain rfl : u = Value.ref d := rx
  have hm1 := PySem.W.mapOf_K (prog := X.prog) (w := X.w) I1.kIn hl hk
  refine ⟨hm1.typeIs, fun b hb => ?_, ?_⟩
  · cases hb
    exact ⟨_, I1.kIn _ _ hl, rfl⟩
  rw [m.trees]
  refine Calls.callWith_builtin rfl (Calls.evalArgs_plain (Calls.spliced_cons (thn (he.run pins s1 σ H1 _ I1 q1) fun iv s2 ⟨y, H2, I2, ry, z, v, ey, g, q2⟩ => Calls.spliced_nil ?_)))
  subst ey
  obtain ⟨t, rfl⟩ := ry
  obtain ⟨es', n', r, hl', hk', lo, e, rv⟩ := g
  have hm := PySem.W.mapOf_K (prog := X.prog) (w := X.w) I2.kIn hl' hk'
  refine call_meetsIn PySem.F.slot_dict_get hm.typeIs PySem.F.entry_dict_get (PySem.F.args_dict_get_2 _ _) (meets_dict_get (strKind X.prog X.w) d (strKind_is X.prog X.w z t) lo) ⟨_, hm, ?_⟩
  rw [PySem.W.find_K hl' e]
  exact ⟨v, H2, I2.tok _, rv, q2⟩
end
end Say
namespace Say
open PySem PySem.Spec PyProof.Rows L2
/-! ### written dicts with texts for keys -/
def tabV (kvs : List (Str × V)) (x : Str) : V := ((kvs.find? fun kv => kv.1 == x).map (·.2)).getD .non
theorem tab_find {x : Str} : ∀ {l : List DictEntry} {kvs : List (Str × V)}, Paired (fun (e : DictEntry) (kv : Str × V) => (∃ t, e.key = .str kv.1 t) ∧ RelV kv.2 e.val) l kvs →
    l.any (·.refKey) = false ∧ ((l.find? (·.key.isStr x) = none ∧ kvs.find? (fun kv => kv.1 == x) = none) ∨ ∃ e kv, l.find? (·.key.isStr x) = some e ∧ kvs.find? (fun kv => kv.1 == x) = some kv ∧ RelV kv.2 e.val)
  | _, _, .nil => ⟨rfl, .inl ⟨rfl, rfl⟩⟩
  | e :: l, kv :: kvs, .cons h r => by
    obtain ⟨⟨t, ht⟩, hv⟩ := h
    obtain ⟨h1, h2⟩ := tab_find (x := x) r
    have hk : e.key.isStr x = (kv.1 == x) := by rw [ht] <;> rfl
    have hr : e.refKey = false := by unfold DictEntry.refKey; rw [ht] <;> rfl
    refine ⟨by rw [List.any_cons, hr, h1] <;> rfl, ?_⟩
    rw [List.find?_cons, List.find?_cons, hk]
    cases c : kv.1 == x with
    | true => exact .inr ⟨e, kv, rfl, rfl, hv⟩
    | false => exact h2
theorem kgt_all {K : PySem.W.Frag} {w : World} {a : Addr} {es : Array DictEntry} {n : Nat} {kvs : List (Str × V)} (hl : K.lookup a = some ⟨.type "dict", none, .dict es n, #[]⟩) (hk : PySem.W.KeysLit w.params es.toList) (lo : (a == sysModules) = false)
    (h : Paired (fun (e : DictEntry) (kv : Str × V) => (∃ t, e.key = .str kv.1 t) ∧ RelV kv.2 e.val) es.toList kvs) (x : Str) : KGt K w a x (tabV kvs x) := by
  obtain ⟨h1, h2⟩ := tab_find (x := x) h
  unfold tabV
  rcases h2 with ⟨e1, e2⟩ | ⟨e, kv, e1, e2, r⟩
  · refine ⟨es, n, none, hl, hk, lo, ?_, by rw [e2] <;> rfl⟩
    unfold PySem.W.nsIn
    rw [hl]
    show (match es.toList.find? (·.key.isStr x) with | some e => some (some e.val) | none => if es.toList.any (·.refKey) then none else some none) = some none
    rw [e1, h1]
    rfl
  · refine ⟨es, n, some e.val, hl, hk, lo, ?_, by rw [e2]; exact r⟩
    unfold PySem.W.nsIn
    rw [hl]
    show (match es.toList.find? (·.key.isStr x) with | some e => some (some e.val) | none => if es.toList.any (·.refKey) then none else some none) = some (some e.val)
    rw [e1]
theorem rel_none {v : V} (h : RelV v .none) : v = .non := by
  cases v with
  | non => rfl
  | bl b => have h : Value.none = Value.bool b := h; cases h
  | int i => obtain ⟨_, z⟩ := (show ∃ t, Value.none = Value.int i t from h); cases z
  | str i => obtain ⟨_, z⟩ := (show ∃ t, Value.none = Value.str i t from h); cases z
  | byt i => obtain ⟨_, z⟩ := (show ∃ t, Value.none = Value.bytes i t from h); cases z
  | flt i => obtain ⟨_, z⟩ := (show ∃ t, Value.none = Value.float i t from h); cases z
  | ref a => have h : Value.none = Value.ref a := h; cases h
  | ty a => have h : Value.none = Value.type a := h; cases h
theorem KGt.dct {K : PySem.W.Frag} {w : World} {a : Addr} {x : Str} {v : V} (h : KGt K w a x v) (n : v ≠ .non) : KDct K w a x v := by
  obtain ⟨es, m, r, hl, hk, lo, e, rv⟩ := h
  cases r with
  | none =>
    exact absurd (rel_none rv) n
  | some u => exact ⟨es, m, u, hl, hk, e, rv⟩
def strV (r : List (List Nat)) : List V := (r.map T).map V.str
theorem strV_flat (r : List (List Nat)) : (strV r).all flatV = true := by
  unfold strV
  rw [List.all_map, List.all_map, List.all_eq_true]
  intro z _
  rfl
theorem inV_str (x : List Nat) (r : List (List Nat)) : inV (.str (T x)) (strV r) = r.contains x := by
  unfold inV strV
  rw [List.any_map, List.any_map, List.contains_eq_any_beq, Bool.eq_iff_iff, List.any_eq_true, List.any_eq_true]
  refine ⟨fun ⟨z, hz, h⟩ => ⟨z, hz, ?_⟩, fun ⟨z, hz, h⟩ => ⟨z, hz, ?_⟩⟩
  · have h : (T z == T x) = true := h
    rw [beq_iff_eq] at h ⊢
    exact (T_inj h).symm
  · rw [beq_iff_eq] at h
    show (T z == T x) = true
    rw [h, beq_self_eq_true]
theorem strV_at {r : List (List Nat)} {i : Nat} {z : List Nat} (h : r[i]? = some z) : (strV r)[i]? = some (.str (T z)) := by
  unfold strV
  rw [List.map_map, List.getElem?_map, h]
  rfl
theorem strV_len (r : List (List Nat)) : (strV r).length = r.length := by unfold strV; rw [List.length_map, List.length_map]
end Say
namespace Say
open PySem PySem.Spec PyProof.Rows L2
/-- tuples of texts, one for each row -/
def TRows (H : Hp) (ts : List Addr) (rows : List (List (List Nat))) : Prop := Paired (fun t r => H t = some (.tup (strV r))) ts rows
theorem TRows.same {H H' : Hp} {ts : List Addr} {rows : List (List (List Nat))} (h : TRows H ts rows) (s : Same H H') : TRows H' ts rows := paired_mono (fun _ _ q => s _ _ q) h
theorem TRows.kt {H H' : Hp} {ts : List Addr} {rows : List (List (List Nat))} (h : TRows H ts rows) (s : KT H H') : TRows H' ts rows := paired_mono (fun _ _ q => s.1 _ _ q) h
theorem take_snoc {α : Type} {l : List α} {i : Nat} {x : α} (h : l[i]? = some x) : l.take (i + 1) = l.take i ++ [x] := by
  rw [List.take_add_one, h]; rfl
/-- the list at D alone is another one -/
theorem stp_lst {H H' : Hp} {D : Addr} {xs : List V} (s : Stp D H H') (hD : H D = some (.lst xs)) : KT H H' := KT.by fun t u h hu => s t _ h (ne_of h hD (by rcases hu with ⟨_, rfl⟩ | ⟨_, _, rfl⟩ <;> (intro z; cases z)))
/-- sep.join(xs) -/
abbrev tJoin (K : PySem.W.Frag) (to te : TE) : TE := tM1 (fun x xs H Q => ∃ a p, ∃ ys : List Str, x = .str a ∧ xs = [.ref p] ∧ (SqL K H p (ys.map V.str) ∨ SqT K H p (ys.map V.str)) ∧ (ys.map (·.length)).sum + ys.length * a.length ≤ 16777216 ∧ Q (.str (Txt.join a ys)) H) to te
section
variable {P : Program} {w : World} {K : PySem.W.Frag} {mg : Str → Option Value} {base : Heap}
abbrev sMk : Stmt := topS 47
theorem scMk : FnScope ["text"] ["text"] (defScope sMk) := ⟨rfl, rfl, rfl, by decide +kernel, rfl, by decide +kernel, by decide +kernel⟩
def spMk : Sp := fun vs H Q _ => ∃ (z : List Nat), vs = [.str (T z)] ∧ Q (.str (T (mkE z))) H
theorem T_empty {z : List Nat} : (V.str (T z) = V.str (Str.ofString "")) ↔ z = [] := by
  rw [show Str.ofString "" = T [] from nil_eq]
  exact ⟨fun h => T_inj (V.str.inj h), fun h => by rw [h]⟩
theorem ok_mk {f : Addr} {fd : FuncData} {k : Nat} (F : Fun K "marked" "marked" sMk f fd) (cE : ∃ t, mg "EMPTY" = some (.str "-" t)) : FnOk P w K mg base CX0 (k + 1) f fd ["text"] spMk := by
  obtain ⟨tE, mE⟩ := cE
  refine F.ok scMk (fun vs H Q E h => ?_) (fun cdv A outer s H vs Q E hr h => ?_)
  · obtain ⟨z, rfl, _⟩ := h
    rfl
  · obtain ⟨z, rfl, q⟩ := h
    refine ⟨_, pss_cons (ps_if (pt_cmpR op_eq (pv 0) pe_str (nomark _)) (pss_one (ps_ret (pe_glob (v := .str "-") rfl mE ⟨_, rfl⟩))) pss_nil) (pss_one (ps_ret (pv 0))), ?_⟩
    refine ⟨_, rfl, rfl, _, rfl, ite2 (fun c => ?_) (fun c => ?_)⟩
    · have c := T_empty.mp (of_decide_eq_true c)
      subst c
      exact q
    · have c : ¬ z = [] := fun e => c (decide_eq_true (T_empty.mpr e))
      unfold mkE at q
      rw [if_neg c] at q
      exact ⟨_, rfl, q⟩
abbrev sUm : Stmt := topS 48
theorem scUm : FnScope ["word"] ["word"] (defScope sUm) := ⟨rfl, rfl, rfl, by decide +kernel, rfl, by decide +kernel, by decide +kernel⟩
def spUm : Sp := fun vs H Q _ => ∃ (z : List Nat), vs = [.str (T z)] ∧ Q (.str (T (umE z))) H
theorem T_dash {z : List Nat} : (V.str (T z) = V.str (Str.ofString "-")) ↔ z = [45] := by
  rw [dash_eq]
  exact ⟨fun h => T_inj (V.str.inj h), fun h => by rw [h]⟩
theorem ok_um {f : Addr} {fd : FuncData} {k : Nat} (F : Fun K "unmarked" "unmarked" sUm f fd) (cE : ∃ t, mg "EMPTY" = some (.str "-" t)) : FnOk P w K mg base CX0 (k + 1) f fd ["word"] spUm := by
  obtain ⟨tE, mE⟩ := cE
  refine F.ok scUm (fun vs H Q E h => ?_) (fun cdv A outer s H vs Q E hr h => ?_)
  · obtain ⟨z, rfl, _⟩ := h
    rfl
  · obtain ⟨z, rfl, q⟩ := h
    refine ⟨_, pss_cons (ps_if (pt_cmpR op_eq (pv 0) (pe_glob (v := .str "-") rfl mE ⟨_, rfl⟩) (nomark _)) (pss_one (ps_ret pe_str)) pss_nil) (pss_one (ps_ret (pv 0))), ?_⟩
    refine ⟨_, rfl, rfl, _, rfl, ite2 (fun c => ?_) (fun c => ?_)⟩
    · have c := T_dash.mp (of_decide_eq_true c)
      subst c
      exact q
    · have c : ¬ z = [45] := fun e => c (decide_eq_true (T_dash.mpr e))
      unfold umE at q
      rw [if_neg c] at q
      exact ⟨_, rfl, q⟩
abbrev sWt : Stmt := topS 42
abbrev nWt : List Str := ["book", "letters", "rules", "exceptions", "rows", "rule", "pair", "row", "word"]
theorem scWt : FnScope nWt ["book"] (defScope sWt) := ⟨rfl, rfl, rfl, by decide +kernel, rfl, by decide +kernel, by decide +kernel⟩
def spWt : Sp := fun vs H Q _ => ∃ (b : Addr) (L : List Nat) (rs : List Rule) (es : List Exc), vs = [.ref b] ∧ BookAt H b L rs es ∧ BookOk L rs es ∧ ∀ (H' : Hp), Same H H' → Q (.str (T (textM L rs es))) H'
theorem ok_wt {f : Addr} {fd : FuncData} (F : Fun K "written" "written" sWt f fd) (DC : Df P w K mg base "checked_book" ["book"] 5 spCh) (DM : Df P w K mg base "marked" ["text"] 1 spMk) :
    FnOk P w K mg base CX0 6 f fd ["book"] spWt := by
  obtain ⟨fC, fdC, GC, kC, bC, mC⟩ := DC
  obtain ⟨fM, fdM, GM, kM, bM, mM⟩ := DM
  refine F.ok scWt (fun vs H Q E h => ?_) (fun cdv A outer s H vs Q E hr h => ?_)
  · obtain ⟨b, L, rs, es, rfl, _⟩ := h
    rfl
  · obtain ⟨b, L, rs, es, rfl, hB, ho, q⟩ := h
    have hr1 : Room 1 _ := hr.mono (by decide)
    refine ⟨_, pss_cons (ps_asg (pe_call GC hr (by rfl) mC kC bC .nil pass0 (pa_cons (pv 0) pa_nil)) (pg_tup (by rfl) (pgs_cons (pg_name (i := 1) scWt.nd rfl (.inl rfl)) (pgs_cons (pg_name (i := 2) scWt.nd rfl (.inl rfl)) (pgs_cons (pg_name (i := 3) scWt.nd rfl (.inl rfl)) pgs_nil)))))
      (pss_cons (ps_set (i := 4) scWt.nd rfl (.inl rfl) (pe_lst (pa_cons (pe_tup (pa_cons pe_str (pa_cons (pv 1) pa_nil))) pa_nil)))
      (pss_cons (ps_expr (pe_bm PySem.F.plainAttrs_list PySem.F.slot_list_extend PySem.F.type_list_extend mt_extend (pv 4) (pa_cons (pe_lc (own := [("rule", 5)]) (g := gName 5) (te := tTup (tCons (tC (.str "rule")) (StX.tStar K (tVar 5) tNil))) rfl scWt.nd
          (pi_tup (pv 2)) (blkOk_by (N := nWt) (sc := defScope sWt) (by decide +kernel)) (fun _ _ _ _ _ => pg_name (i := 5) scWt.nd rfl (.inl rfl)) (fun _ _ _ _ _ => pts_nil) (fun _ _ _ _ _ => pe_tup (pa_cons pe_str (StX.pa_star (pv 5) pa_nil)))) pa_nil)))
      (pss_cons (ps_expr (pe_bm PySem.F.plainAttrs_list PySem.F.slot_list_extend PySem.F.type_list_extend mt_extend (pv 4) (pa_cons (pe_lc (own := [("pair", 6)]) (g := gName 6) (te := tTup (tCons (tC (.str "word")) (StX.tStar K (tVar 6) tNil))) rfl scWt.nd
          (pi_tup (pv 3)) (blkOk_by (N := nWt) (sc := defScope sWt) (by decide +kernel)) (fun _ _ _ _ _ => pg_name (i := 6) scWt.nd rfl (.inl rfl)) (fun _ _ _ _ _ => pts_nil) (fun _ _ _ _ _ => pe_tup (pa_cons pe_str (StX.pa_star (pv 6) pa_nil)))) pa_nil)))
      (pss_one (ps_ret (pe_join pe_str (pe_lc (own := [("row", 7)]) (g := gName 7) (te := tJoin K (tC (.str " ")) (tLc (iTup K (tVar 7)) (gName 8) tYes (tCall spMk [] E0 (tCons (tVar 8) tNil)) [8])) rfl scWt.nd
          (pi_list (pv 4)) (blkOk_by (N := nWt) (sc := defScope sWt) (by decide +kernel)) (fun _ _ _ _ _ => pg_name (i := 7) scWt.nd rfl (.inl rfl)) (fun _ _ _ _ _ => pts_nil)
          (fun _ _ _ _ _ => pe_join pe_str (pe_lc (own := [("word", 8)]) (g := gName 8) rfl scWt.nd (pi_tup (pv 7)) (blkOk_by (by kernel_rfl)) (fun _ _ _ _ _ => pg_name (i := 8) scWt.nd rfl (.inl rfl)) (fun _ _ _ _ _ => pts_nil)
            (fun _ _ _ _ _ => pe_call GM hr1 (by rfl) mM kM bM .nil pass0 (pa_cons (pv 8) pa_nil))))))))))), ?_⟩
    refine ⟨_, rfl, b, L, rs, es, rfl, hB, ho, fun H1 s1 => ?_⟩
    obtain ⟨R, X, hb, ⟨tsR, hR, pR⟩, ⟨tsX, hX, pX⟩⟩ := hB.kt (.of s1)
    refine ⟨b, _, rfl, .inl (.inl hb), rfl, _, _, rfl, _, _, rfl, _, _, rfl, rfl, ?_⟩
    have r12 := ho.r12
    have e8 := ho.e8
    refine ⟨_, rfl, (by show 2 ≤ sizeLine; decide), fun p0 hp0 => ⟨(by show 1 ≤ sizeLine; decide), fun W hW => ?_⟩⟩
    have s2 : Same H1 (upd H1 p0 (.tup [.str "letters", .str (T L)])) := same_new hp0 _
    have t0 : (upd H1 p0 (.tup [.str "letters", .str (T L)])) p0 = some (.tup (strV [kwL, L])) := by
      rw [upd_same]
      show some (HO.tup [.str (Str.ofString "letters"), .str (T L)]) = _
      rw [kwL_eq] <;> rfl
    generalize upd H1 p0 (.tup [.str "letters", .str (T L)]) = H2 at s2 t0 hW ⊢
    have s3 : Same H2 (upd H2 W (.lst [.ref p0])) := same_new hW _
    have hW3 : (upd H2 W (.lst [.ref p0])) W = some (.lst [.ref p0]) := upd_same
    generalize upd H2 W (.lst [.ref p0]) = H3 at s3 hW3 ⊢
    have s13 := s2.trans s3
    -- rules
    refine ⟨_, rfl, .inl ⟨rfl, _, .inl (.inl hW3)⟩, _, rfl, R, rfl, ⟨_, .inl (.inl (s13 _ _ hR))⟩, fun D hD => ?_⟩
    refine lc_it (walk_tup (xs := tsR.map V.ref)) (fun i H4 => ∃ ts : List Addr, H4 D = some (.lst (ts.map V.ref)) ∧ TRows H4 ts ((rs.take i).map ruleRow) ∧ Same H3 H4) ?_ (fun i H4 _ h => by obtain ⟨_, _, _, s⟩ := h; exact .inl (.inl ((s13.trans s) _ _ hR))) ?_ ?_
    · exact ⟨[], upd_same, .nil, same_new hD _⟩
    · rintro i x H4 H4' hi ⟨ts, e1, e2, e3⟩ ⟨rfl, hx⟩
      rw [List.getElem?_map] at hx
      obtain ⟨t, ht, e⟩ := Option.map_eq_some_iff.mp hx
      subst e
      obtain ⟨ρ, hρ, hat⟩ := paired_at pR ht
      refine ⟨rfl, _, rfl, t, _, rfl, .inl (.inl (.inl ((s13.trans e3) _ _ hat))), (by show 5 ≤ sizeLine; decide), fun p hp => ?_⟩
      have sp := same_new hp (.tup (V.str "rule" :: (ρ.vs ++ [])))
      have lt : ts.length = (rs.take i).length := by rw [paired_len e2, List.length_map]
      refine ⟨_, sp _ _ e1, ?_, ts ++ [p], ?_, ?_, ?_⟩
      · rw [List.length_map, lt, List.length_take]
        exact small1000 (by omega)
      · rw [upd_same, List.map_append]
        rfl
      · rw [take_snoc hρ, List.map_append]
        have k : KT (upd H4' p (.tup (V.str "rule" :: (ρ.vs ++ [])))) _ := kt_upd (sp _ _ e1) (o := .lst (ts.map V.ref ++ [.ref p]))
        refine paired_app ((e2.same sp).kt k) (.cons (k.1 _ _ ?_) .nil)
        rw [upd_same]
        show some (HO.tup [.str (Str.ofString "rule"), _, _, _, _]) = _
        rw [kwR_eq] <;> rfl
      · exact fun c u hc => by
          rw [upd_ne (ne_of_none hc hD)]
          exact sp _ _ (e3 _ _ hc)
    rintro H4 ⟨tsA, d4, q4, s4⟩
    rw [List.length_map, paired_len pR, List.take_length] at q4
    have hW4 := s4 _ _ hW3
    refine ⟨W, D, _, _, rfl, rfl, hW4, d4, ?_, ?_⟩
    · rw [List.length_map, paired_len q4, List.length_map]
      exact small (by show 1 + _ ≤ _; omega)
    have k5 : KT H4 (upd H4 W (.lst ([V.ref p0] ++ tsA.map V.ref))) := kt_upd hW4
    have t5 := k5.1 _ _ (s4 _ _ (s3 _ _ t0))
    have q5 := q4.kt k5
    have hW5 : (upd H4 W (.lst ([V.ref p0] ++ tsA.map V.ref))) W = some (.lst ([V.ref p0] ++ tsA.map V.ref)) := upd_same
    have hX5 := hX.kt ((KT.of (s13.trans s4)).trans k5)
    have pX5 : Paired (fun t (e : Exc) => (upd H4 W (.lst ([V.ref p0] ++ tsA.map V.ref))) t = some (.tup [.str (T e.1), .str (T e.2)])) tsX es := paired_mono (fun t e h => k5.1 _ _ ((s13.trans s4) _ _ h)) pX
    have s15 : Same H1 (upd H4 W (.lst ([V.ref p0] ++ tsA.map V.ref))) := fun c u hc => by
      rw [upd_ne (ne_of_none (s2 _ _ hc) hW)]
      exact s4 _ _ (s13 _ _ hc)
    generalize upd H4 W (.lst ([V.ref p0] ++ tsA.map V.ref)) = H5 at t5 q5 hW5 hX5 pX5 s15 ⊢
    -- exceptions
    refine ⟨_, rfl, .inl ⟨rfl, _, .inl (.inl hW5)⟩, _, rfl, X, rfl, ⟨_, .inl hX5.rd⟩, fun D2 hD2 => ?_⟩
    refine lc_it (walk_tup (xs := tsX.map V.ref)) (fun i H6 => ∃ ts : List Addr, H6 D2 = some (.lst (ts.map V.ref)) ∧ TRows H6 ts ((es.take i).map excRow) ∧ Same H5 H6) ?_ (fun i H6 _ h => by obtain ⟨_, _, _, s⟩ := h; exact .inl (hX5.kt (.of s)).rd) ?_ ?_
    · exact ⟨[], upd_same, .nil, same_new hD2 _⟩
    · rintro i x H6 H6' hi ⟨ts, e1, e2, e3⟩ ⟨rfl, hx⟩
      rw [List.getElem?_map] at hx
      obtain ⟨t, ht, e⟩ := Option.map_eq_some_iff.mp hx
      subst e
      obtain ⟨en, hen, hat⟩ := paired_at pX5 ht
      refine ⟨rfl, _, rfl, t, _, rfl, .inl (.inl (.inl (e3 _ _ hat))), (by show 3 ≤ sizeLine; decide), fun p hp => ?_⟩
      have sp := same_new hp (.tup (V.str "word" :: ([.str (T en.1), .str (T en.2)] ++ [])))
      have lt : ts.length = (es.take i).length := by rw [paired_len e2, List.length_map]
      refine ⟨_, sp _ _ e1, ?_, ts ++ [p], ?_, ?_, ?_⟩
      · rw [List.length_map, lt, List.length_take]
        exact small1000 (by omega)
      · rw [upd_same, List.map_append]
        rfl
      · rw [take_snoc hen, List.map_append]
        have k : KT (upd H6' p (.tup (V.str "word" :: ([.str (T en.1), .str (T en.2)] ++ [])))) _ := kt_upd (sp _ _ e1) (o := .lst (ts.map V.ref ++ [.ref p]))
        refine paired_app ((e2.same sp).kt k) (.cons (k.1 _ _ ?_) .nil)
        rw [upd_same]
        show some (HO.tup [.str (Str.ofString "word"), _, _]) = _
        rw [kwW_eq] <;> rfl
      · exact fun c u hc => by
          rw [upd_ne (ne_of_none hc hD2)]
          exact sp _ _ (e3 _ _ hc)
    rintro H6 ⟨tsB, d6, q6, s6⟩
    rw [List.length_map, paired_len pX, List.take_length] at q6
    have hW6 := s6 _ _ hW5
    refine ⟨W, D2, _, _, rfl, rfl, hW6, d6, ?_, ?_⟩
    · rw [List.length_append, List.length_map, List.length_map, paired_len q5, paired_len q6, List.length_map, List.length_map]
      exact small (by show 1 + _ + _ ≤ _; omega)
    have k7 : KT H6 (upd H6 W (.lst (([V.ref p0] ++ tsA.map V.ref) ++ tsB.map V.ref))) := kt_upd hW6
    have rows7 : TRows (upd H6 W (.lst (([V.ref p0] ++ tsA.map V.ref) ++ tsB.map V.ref))) (p0 :: (tsA ++ tsB)) (rowsM L rs es) :=
      .cons (k7.1 _ _ (s6 _ _ t5)) (paired_app ((q5.same s6).kt k7) (q6.kt k7))
    have hW7 : (upd H6 W (.lst (([V.ref p0] ++ tsA.map V.ref) ++ tsB.map V.ref))) W = some (.lst ((p0 :: (tsA ++ tsB)).map V.ref)) := by
      rw [upd_same, List.map_cons, List.map_append]
      rfl
    have s17 : Same H1 (upd H6 W (.lst (([V.ref p0] ++ tsA.map V.ref) ++ tsB.map V.ref))) := fun c u hc => by
      rw [upd_ne (ne_of_none (s2 _ _ hc) hW)]
      exact s6 _ _ (s15 _ _ hc)
    generalize upd H6 W (.lst (([V.ref p0] ++ tsA.map V.ref) ++ tsB.map V.ref)) = H7 at rows7 hW7 s17 ⊢
    generalize p0 :: (tsA ++ tsB) = ts7 at rows7 hW7
    -- the text
    have hl := rows_len ho
    refine ⟨⟨_, rfl⟩, _, rfl, W, rfl, ⟨_, .inl (.inl hW7)⟩, fun D3 hD3 => ?_⟩
    refine lc_it (walk_list (xs := ts7.map V.ref)) (fun i H8 => H8 D3 = some (.lst (((((rowsM L rs es).take i).map markR).map lineM).map fun l => V.str (T l))) ∧ Same H7 H8) ?_ (fun i H8 _ h => .inl (.inl (h.2 _ _ hW7))) ?_ ?_
    · exact ⟨upd_same, same_new hD3 _⟩
    · rintro i x H8 H8' hi ⟨e1, e3⟩ ⟨rfl, hx⟩
      rw [List.getElem?_map] at hx
      obtain ⟨t, ht, e⟩ := Option.map_eq_some_iff.mp hx
      subst e
      obtain ⟨r, hrr, hat⟩ := paired_at rows7 ht
      have ro := rows_ok ho r (List.mem_of_getElem? hrr)
      have hat8 := e3 _ _ hat
      refine ⟨rfl, ⟨_, rfl⟩, _, rfl, t, rfl, ⟨_, .inl (.inl hat8)⟩, fun D4 hD4 => ?_⟩
      refine lc_it (walk_tup (xs := strV r)) (fun j H9 => H9 D4 = some (.lst (strV (markR (r.take j)))) ∧ Same H8' H9) ?_ (fun j H9 _ h => .inl (.inl (h.2 _ _ hat8))) ?_ ?_
      · exact ⟨upd_same, same_new hD4 _⟩
      · rintro j x H9 H9' hj ⟨f1, f3⟩ ⟨rfl, hx⟩
        unfold strV at hx
        rw [List.map_map, List.getElem?_map] at hx
        obtain ⟨z, hz, e⟩ := Option.map_eq_some_iff.mp hx
        subst e
        refine ⟨rfl, _, rfl, z, rfl, _, f1, ?_, ?_, ?_⟩
        · have := ro.l5
          unfold strV markR
          rw [List.length_map, List.length_map, List.length_map, List.length_take]
          exact small1000 (by omega)
        · rw [upd_same, take_snoc hz]
          unfold strV markR
          rw [List.map_append, List.map_append, List.map_append]
          rfl
        · exact fun c u hc => by
            rw [upd_ne (ne_of_none hc hD4)]
            exact f3 _ _ hc
      rintro H9 ⟨f1, f3⟩
      have le : (strV r).length = r.length := by unfold strV; rw [List.length_map, List.length_map]
      rw [le, List.take_length] at f1
      refine ⟨Str.ofString " ", D4, (markR r).map T, rfl, rfl, .inl (.inl (.inl f1)), ?_, ?_⟩
      · have h1 := mark_len ro
        have h5 := ro.l5
        have e1 : ((markR r).map T).length = r.length := by unfold markR; rw [List.length_map, List.length_map]
        have e2 : (((markR r).map T).map fun x => x.length) = (markR r).map List.length := by
          rw [List.map_map]
          exact List.map_congr_left fun z _ => T_len z
        rw [e1, e2, sp_eq, T_len]
        show _ + _ * 1 ≤ _
        omega
      · rw [sp_eq, join_T]
        have e1' := f3 _ _ e1
        refine ⟨_, e1', ?_, ?_, ?_⟩
        · rw [List.length_map, List.length_map, List.length_map, List.length_take]
          exact small1000 (by omega)
        · rw [upd_same, take_snoc hrr, List.map_append, List.map_append, List.map_append]
          rfl
        · exact fun c u hc => by
            rw [upd_ne (ne_of_none hc hD3)]
            exact f3 _ _ (e3 _ _ hc)
    rintro H8 ⟨e1, e3⟩
    have le : (ts7.map V.ref).length = (rowsM L rs es).length := by rw [List.length_map, paired_len rows7]
    rw [le, List.take_length] at e1
    refine ⟨Str.ofString "\n", D3, ((wordsM L rs es).map lineM).map T, rfl, rfl, .inl (.inl (.inl (by rw [e1, List.map_map (g := V.str)]; rfl))), ?_, ?_⟩
    · have h1 := lines_len ho
      have ew : (wordsM L rs es).length = (rowsM L rs es).length := by unfold wordsM; rw [List.length_map]
      have e2 : ((((wordsM L rs es).map lineM).map T).map fun x => x.length) = ((wordsM L rs es).map lineM).map List.length := by
        rw [List.map_map]
        exact List.map_congr_left fun z _ => T_len z
      rw [e2, nl_eq, T_len, List.length_map, List.length_map, ew]
      show _ + _ * 1 ≤ _
      omega
    · rw [nl_eq, join_T]
      exact q H8 (s1.trans (s17.trans e3))
end
end Say
namespace Say
open PySem PySem.Spec PyProof.Rows L2
/-! ### rows of words -/
def sizeV (h : List Nat) : V := if h = kwL then .int 2 else if h = kwR then .int 5 else if h = kwW then .int 3 else .non
def follM (l : List Nat) : List (List Nat) := if l = [] then [kwL] else if l = kwW then [kwW] else [kwR, kwW]
def keysN : List (List Nat) := [[], kwL, kwR, kwW]
def hdR (r : List (List Nat)) : List Nat := r.headD []
def isRowM (r : List (List Nat)) : Bool := !r.contains [] && decide (sizeV (hdR r) = .int r.length)
def rowsGood : List Nat → List (List (List Nat)) → Bool
  | _, [] => true
  | last, r :: rest => isRowM r && ((follM last).contains (hdR r) && rowsGood (hdR r) rest)
/-- what the module's two dicts hold -/
structure NoteK (K : PySem.W.Frag) (w : World) (mg : Str → Option Value) : Prop where
  sz : ∃ a es n, mg "SIZES" = some (.ref a) ∧ K.lookup a = some ⟨.type "dict", none, .dict es n, #[]⟩ ∧ PySem.W.KeysLit w.params es.toList ∧ ∀ h : List Nat, KGt K w a (T h) (sizeV h)
  fo : ∃ a, mg "FOLLOWING" = some (.ref a) ∧ ∀ l ∈ keysN, ∃ p, KDct K w a (T l) (.ref p) ∧ ∀ H : Hp, SqT K H p (strV (follM l))
theorem size_tab (h : List Nat) : tabV [("letters", .int 2), ("rule", .int 5), ("word", .int 3)] (T h) = sizeV h := by
  unfold tabV sizeV
  have e : ∀ k : List Nat, (T k == T h) = decide (h = k) := fun k => by
    rw [Bool.eq_iff_iff, beq_iff_eq, decide_eq_true_eq]
    exact ⟨fun z => (T_inj z).symm, fun z => by rw [z]⟩
  rw [List.find?_cons, List.find?_cons, List.find?_cons]
  show Option.getD (Option.map _ (match (Str.ofString "letters" == T h) with | true => _ | false => match (Str.ofString "rule" == T h) with | true => _ | false => match (Str.ofString "word" == T h) with | true => _ | false => _)) _ = _
  rw [kwL_eq, kwR_eq, kwW_eq, e, e, e]
  by_cases h1 : h = kwL
  · rw [if_pos h1, decide_eq_true h1] <;> rfl
  rw [if_neg h1, decide_eq_false h1]
  by_cases h2 : h = kwR
  · rw [if_pos h2, decide_eq_true h2] <;> rfl
  rw [if_neg h2, decide_eq_false h2]
  by_cases h3 : h = kwW
  · rw [if_pos h3, decide_eq_true h3] <;> rfl
  rw [if_neg h3, decide_eq_false h3] <;> rfl
/-- a list of lists of texts -/
def LRows (H : Hp) (D : Addr) (rows : List (List (List Nat))) : Prop := ∃ ts : List Addr, H D = some (.lst (ts.map V.ref)) ∧ Paired (fun t r => H t = some (.lst (strV r))) ts rows
theorem LRows.same {H H' : Hp} {D : Addr} {rows : List (List (List Nat))} (h : LRows H D rows) (s : Same H H') : LRows H' D rows := ⟨h.choose, s _ _ h.choose_spec.1, paired_mono (fun _ _ q => s _ _ q) h.choose_spec.2⟩
theorem hd_at {r : List (List Nat)} (h : r ≠ []) : r[0]? = some (hdR r) := by
  cases r with
  | nil => exact absurd rfl h
  | cons a t => rfl
section
variable {P : Program} {w : World} {K : PySem.W.Frag} {mg : Str → Option Value} {base : Heap}
abbrev sIr : Stmt := topS 45
theorem scIr : FnScope ["words"] ["words"] (defScope sIr) := ⟨rfl, rfl, rfl, by decide +kernel, rfl, by decide +kernel, by decide +kernel⟩
def spIr : Sp := fun vs H Q _ => ∃ (t : Addr) (r : List (List Nat)), vs = [.ref t] ∧ H t = some (.lst (strV r)) ∧ r ≠ [] ∧ Q (.bl (isRowM r)) H
theorem ok_ir {f : Addr} {fd : FuncData} {k : Nat} (F : Fun K "is_row" "is_row" sIr f fd) (B : Bn mg) (NK : NoteK K w mg) : FnOk P w K mg base CX0 (k + 1) f fd ["words"] spIr := by
  obtain ⟨⟨aS, es, n, mS, lS, kS, gS⟩, _⟩ := NK
  refine F.ok scIr (fun vs H Q E h => ?_) (fun cdv A outer s H vs Q E hr h => ?_)
  · obtain ⟨t, r, rfl, _⟩ := h
    rfl
  · obtain ⟨t, r, rfl, ht, hne, q⟩ := h
    refine ⟨_, pss_one (ps_ret (pe_and (pe_cmpR op_notIn_seq pe_str (pv 0) rfl) (pe_one (pe_cmpR op_eq (pe_kget (d := aS) lS kS (pe_glob (v := .ref aS) rfl mS rfl) (pe_ix ix_list (pv 0) pe_int (fun _ _ => rfl)) ⟨rfl, rfl, rfl, rfl⟩)
      (pe_callB call_len (by rfl) B.len PySem.boot_len (pa_cons (pv 0) pa_nil)) (nomark _))))), ?_⟩
    refine ⟨_, rfl, t, _, rfl, .inl (.inl (.inl ht)), rfl, strV_flat r, ?_⟩
    rw [show (V.str "") = V.str (T []) from congrArg V.str nil_eq, inV_str]
    unfold isRowM at q
    refine ⟨_, rfl, ?_⟩
    cases c : r.contains [] with
    | true =>
      rw [c] at q
      exact iteF q
    | false =>
      rw [c] at q
      refine iteT ?_
      refine ⟨rfl, _, rfl, t, _, 0, .str (T (hdR r)), rfl, rfl, .inl (.inl ht), atI_nat (j := 0) (strV_at (hd_at hne)), T (hdR r), sizeV (hdR r), rfl, gS _, ?_⟩
      refine ⟨_, rfl, _, _, rfl, .inl ⟨_, .inl (.inl ht), rfl⟩, ?_, ?_⟩
      · unfold sizeV
        split
        · rfl
        split
        · rfl
        split <;> rfl
      · rw [strV_len]
        exact q
end
end Say
namespace Say
open PySem PySem.Spec PyProof.Rows L2
theorem foll_all {K : PySem.W.Frag} {w : World} {a p0 p1 p2 p3 : Addr} {es : Array DictEntry} {n : Nat} (hl : K.lookup a = some ⟨.type "dict", none, .dict es n, #[]⟩) (hk : PySem.W.KeysLit w.params es.toList) (lo : (a == sysModules) = false)
    (h : Paired (fun (e : DictEntry) (kv : Str × V) => (∃ t, e.key = .str kv.1 t) ∧ RelV kv.2 e.val) es.toList [("", .ref p0), ("letters", .ref p1), ("rule", .ref p2), ("word", .ref p3)])
    (h0 : ∀ H : Hp, SqT K H p0 [V.str "letters"]) (h1 : ∀ H : Hp, SqT K H p1 [V.str "rule", V.str "word"]) (h2 : ∀ H : Hp, SqT K H p2 [V.str "rule", V.str "word"]) (h3 : ∀ H : Hp, SqT K H p3 [V.str "word"]) :
    ∀ l ∈ keysN, ∃ p, KDct K w a (T l) (.ref p) ∧ ∀ H : Hp, SqT K H p (strV (follM l)) := by
  have e0 : tabV [("", .ref p0), ("letters", .ref p1), ("rule", .ref p2), ("word", .ref p3)] (T []) = .ref p0 := by rw [← show Str.ofString "" = T [] from nil_eq] <;> rfl
  have e1 : tabV [("", .ref p0), ("letters", .ref p1), ("rule", .ref p2), ("word", .ref p3)] (T kwL) = .ref p1 := by rw [← kwL_eq] <;> rfl
  have e2 : tabV [("", .ref p0), ("letters", .ref p1), ("rule", .ref p2), ("word", .ref p3)] (T kwR) = .ref p2 := by rw [← kwR_eq] <;> rfl
  have e3 : tabV [("", .ref p0), ("letters", .ref p1), ("rule", .ref p2), ("word", .ref p3)] (T kwW) = .ref p3 := by rw [← kwW_eq] <;> rfl
  have w1 : ∀ H : Hp, SqT K H p0 (strV (follM [])) := fun H => by
    show SqT K H p0 [V.str (T kwL)]
    rw [← kwL_eq]; exact h0 H
  have w2 : ∀ H : Hp, SqT K H p1 (strV (follM kwL)) := fun H => by
    show SqT K H p1 [V.str (T kwR), V.str (T kwW)]
    rw [← kwR_eq, ← kwW_eq]; exact h1 H
  have w3 : ∀ H : Hp, SqT K H p2 (strV (follM kwR)) := fun H => by
    show SqT K H p2 [V.str (T kwR), V.str (T kwW)]
    rw [← kwR_eq, ← kwW_eq]; exact h2 H
  have w4 : ∀ H : Hp, SqT K H p3 (strV (follM kwW)) := fun H => by
    show SqT K H p3 [V.str (T kwW)]
    rw [← kwW_eq]; exact h3 H
  intro l hm
  simp only [keysN, List.mem_cons, List.not_mem_nil, or_false] at hm
  rcases hm with rfl | rfl | rfl | rfl
  · exact ⟨p0, (e0 ▸ kgt_all hl hk lo h (T [])).dct (fun z => by cases z), w1⟩
  · exact ⟨p1, (e1 ▸ kgt_all hl hk lo h (T kwL)).dct (fun z => by cases z), w2⟩
  · exact ⟨p2, (e2 ▸ kgt_all hl hk lo h (T kwR)).dct (fun z => by cases z), w3⟩
  · exact ⟨p3, (e3 ▸ kgt_all hl hk lo h (T kwW)).dct (fun z => by cases z), w4⟩
end Say
namespace Say
open PySem PySem.Spec PyProof.Rows L2
section
variable {X : Cx}
/-- tuple(xs) of a list: a tuple as it is made -/
theorem call_tupN : CallR X (.type "tuple") (fun xs H Q => ∃ p ys, xs = [.ref p] ∧ SqL X.K H p ys ∧ ∀ (l : Addr) (o : Obj), o.dict = none → H l = none → Q (.ref l) (upd H l (.frz o (.tup ys)))) := by
  intro pins s σ H xs us Q I r h
  obtain ⟨p, ys, rfl, hq, q⟩ := h
  obtain ⟨u, rfl, rx⟩ := vals1 r
  cases rx
  obtain ⟨its, r', pl, hz⟩ := I.list hq
  have hlen := r'.length
  refine call_tuple_list pl.isList (fun h' kp => ?_) (by simp only [List.size_toArray] <;> omega)
  have I1 : Inv X pins σ H { s with heap := h' } := I.kept (t' := s.toks) kp
  have I2 : Inv X pins σ (upd H h'.objs.size (.frz { cls := .type "tuple", data := .seq its.toArray } (.tup ys))) { s with heap := h'.push { cls := .type "tuple", data := .seq its.toArray } } :=
    I1.laid (t' := s.toks) (fun b o e => Heap.get?_push_of_some _ e) (Nat.le_refl _) (show ObjOk X.prog X.w _ _ _ (.frz _ (.tup ys)) from ⟨Heap.get?_push_size _ rfl, hz, its, r', IsTup.new _ _⟩)
  exact ⟨.ref h'.objs.size, _, I2, rfl, q _ _ rfl (I1.hok.fresh (Nat.le_refl _))⟩
theorem pairs_ofT {pins : List (Addr × Obj)} {σ : L2.St} {H : Hp} {s : Shared} (I : L2.Inv X pins σ H s) : ∀ {ps : List Addr} {kvs : List (Key × V)}, Paired (fun p kv => SqT X.K H p [kV kv.1, kv.2]) ps kvs →
    ∃ (prs : List (Key × Value)) (vs : List (Value × Value)), KV kvs prs ∧ prs.length = ps.length ∧ vs.length = ps.length ∧
      ∀ (j : Nat) (k v : Value), vs[j]? = some (k, v) → ∃ (b : Addr) (q : Key), ps[j]? = some b ∧ prs[j]? = some (q, v) ∧ IsTup s.heap b #[k, v] ∧ keyIs q k = true
  | _, _, .nil => ⟨[], [], .nil, rfl, rfl, fun j k v e => by simp at e⟩
  | _, _, .cons (a := p) (b := kv) h t => by
    obtain ⟨prs, vs, r, hl, hl2, hp⟩ := pairs_ofT I t
    obtain ⟨its, rv, ht, _⟩ := I.tuple h
    obtain ⟨u, y, ei, ru, ry⟩ := vals2 rv
    subst ei
    refine ⟨(kv.1, y) :: prs, (u, y) :: vs, .cons ⟨rfl, ry⟩ r, by rw [List.length_cons, List.length_cons, hl], by rw [List.length_cons, List.length_cons, hl2], fun j k v e => ?_⟩
    cases j with
    | zero =>
      have e' : (u, y) = (k, v) := Option.some.inj e
      cases e'
      exact ⟨p, kv.1, rfl, rfl, ht, kV_is (P := X.prog) (w := X.w) ru⟩
    | succ j =>
      obtain ⟨b, q, e1, e2, e3⟩ := hp j k v (by simpa using e)
      exact ⟨b, q, by simpa using e1, by simpa using e2, e3⟩
/-- a display, as it is made -/
def tTupN (t : TA) : TE := fun σ H Q => t σ H fun xs H1 => xs.length ≤ sizeLine ∧ ∀ (p : Addr) (o : Obj), o.dict = none → H1 p = none → Q (.ref p) (upd H1 p (.frz o (.tup xs)))
theorem pe_tupN {es : List Expr} {t : TA} {pos : Pos} {x1} (h : PA X es t) : PE X (.Tuple es x1 pos) (tTupN t) := by
  refine ⟨fun pins s σ H Q I hq => ?_⟩
  refine wpAny_Tuple_spliced (thn (h.run pos pins s σ H _ I hq) fun us s1 ⟨xs, H1, I1, r, z, q⟩ => ⟨by rw [← r.length]; exact z, ?_⟩)
  have hf : H1 s1.heap.objs.size = none := I1.hok.fresh (Nat.le_refl _)
  exact ⟨.ref s1.heap.objs.size, upd H1 s1.heap.objs.size (.frz _ (.tup xs)), I1.laid (t' := s1.toks) (fun b u e => Heap.get?_push_of_some _ e) (Nat.le_refl _) ⟨Heap.get?_push_size _ rfl, z, us, r, ⟨_, Heap.get?_push_size _ rfl, rfl, _, rfl⟩⟩, rfl, q _ _ rfl hf⟩
/-- dict(ps) of such a tuple of pairs -/
theorem call_dictT (hcalm : X.calm = true) : CallR X (.type "dict") (fun xs H Q => ∃ (a : Addr) (ps : List Addr) (kvs : List (Key × V)), xs = [.ref a] ∧ TupN H a (ps.map V.ref) ∧ Paired (fun p kv => SqT X.K H p [kV kv.1, kv.2]) ps kvs ∧
    ∀ p, H p = none → Q (.ref p) (upd H p (.dK (mergeK [] kvs)))) := by
  intro pins s σ H xs us Q I r q
  obtain ⟨a, ps, kvs, ex, hq, hp, q⟩ := q
  subst ex
  obtain ⟨u, eu, rx⟩ := vals1 r
  subst eu
  cases rx
  obtain ⟨o, hH, hd⟩ := hq
  obtain ⟨ho, hz, its, rv, ⟨o', ho', hc, n, hdat⟩⟩ : s.heap.get? a = some o ∧ (ps.map V.ref).length ≤ sizeLine ∧ ∃ its : List Value, Vals (ps.map V.ref) its ∧ IsTup s.heap a its.toArray := I.hok _ _ hH
  have eo : o' = o := Option.some.inj (ho'.symm.trans ho)
  subst eo
  have ei := refs_at rv
  subst ei
  rw [List.length_map] at hz
  obtain ⟨prs, vs, rel, hl, hl2, hpr⟩ := pairs_ofT I hp
  refine PySem.call_dict_pairs (knd := mixKind X.prog X.w) (kvs := prs) (PySem.PairArg.tuple a (ps.map Value.ref).toArray (fun j => (ps[j]?).getD 0) vs) (I.ok.hd hcalm) ⟨⟨o', n, ho, hc, hd, hdat⟩, by simp [hl2], fun j k v e => ?_⟩ ⟨by rw [hl, hl2], fun j k v e => ?_⟩ (by rw [hl2]; exact hz) fun h' tk hd' k => ?_
  · obtain ⟨b, q', e1, _, e3, _⟩ := hpr j k v e
    refine ⟨by simp [e1], .inl ?_⟩
    show s.heap.IsTuple ((ps[j]?).getD 0) _
    rw [e1]
    exact e3
  · obtain ⟨b, q', e1, e2, _, e4⟩ := hpr j k v e
    exact ⟨q', e2, e4⟩
  · have hm : (s.heap.objs.size == sysModules) = false := beq_eq_false_iff_ne.mpr (Nat.ne_of_gt I.big)
    have hlen : (mergeK [] kvs).length ≤ sizeLine := by
      refine Nat.le_trans (length_mergeK kvs []) ?_
      rw [List.length_nil, Nat.zero_add, rel.length, hl]
      exact hz
    have k' : ∀ b o, s.heap.get? b = some o → h'.get? b = some o := fun b o e => k b o (by simp) e
    exact ⟨.ref s.heap.objs.size, upd H s.heap.objs.size (.dK (mergeK [] kvs)), I.laid (t' := tk) k' (Nat.le_refl _) (show ObjOk X.prog X.w _ _ _ (.dK (mergeK [] kvs)) from ⟨hlen, hm, merged [] prs, KV.merge rel .nil, hd'⟩), rfl, q _ (I.hok.fresh (Nat.le_refl _))⟩
end
end Say
namespace Say
open PySem PySem.Spec PyProof.Rows L2
section
variable {X : Cx}
/-- t[lo:hi] of a tuple, as it is made: t itself where it is the whole -/
def rSlN (K : PySem.W.Frag) : V → Option Int → Option Int → Hp → VK → Prop := fun x lo hi H Q => ∃ a xs, x = .ref a ∧ SqT K H a xs ∧
  (HT.sIx xs.length 0 lo = 0 ∧ HT.sIx xs.length xs.length hi = xs.length → Q (.ref a) H) ∧ (¬ (HT.sIx xs.length 0 lo = 0 ∧ HT.sIx xs.length xs.length hi = xs.length) → ∀ (p : Addr) (o : Obj), o.dict = none → H p = none → Q (.ref p) (upd H p (.frz o (.tup (cutV xs lo hi)))))
theorem sl_tupN : SlR X (rSlN X.K) := by
  intro pins s σ H x v vl vu lo hi sl Q I rx hs pl pu h
  obtain ⟨a, xs, rfl, hx, q1, q2⟩ := h
  cases rx
  obtain ⟨its, r, ht, hz⟩ := I.tuple hx
  have hlen : its.toArray.size = xs.length := by rw [List.size_toArray]; exact r.length.symm
  refine ⟨"tuple", _, PyProof.Rows.slot_tuple_getitem.lookup, ht.typeIs, ?_⟩
  by_cases hw : HT.sIx xs.length 0 lo = 0 ∧ HT.sIx xs.length xs.length hi = xs.length
  · exact getItem_tuple_whole ht hs pl pu (by rw [hlen]; exact hw) ⟨.ref a, H, I, rfl, q1 hw⟩
  · refine HT.getItem_tuple_cut ht hs pl pu (by rw [hlen]; exact hw) ?_ (by rw [hlen]; exact hz)
    rw [hlen]
    have rr := (r.drop (HT.sIx xs.length 0 lo)).take (HT.sIx xs.length xs.length hi - HT.sIx xs.length 0 lo)
    exact ⟨.ref s.heap.objs.size, _, I.laid (t' := s.toks) (fun b ob e => Heap.get?_push_of_some _ e) (Nat.le_refl _) (show ObjOk X.prog X.w _ _ _ (.frz _ (.tup (cutV xs lo hi))) from ⟨Heap.get?_push_size _ rfl, Nat.le_trans (cutV_length xs lo hi) hz, _, rr, IsTup.new _ _⟩), rfl, q2 hw _ _ rfl (I.hok.fresh (Nat.le_refl _))⟩
/-- t[lo:hi] of a tuple as it was made, whatever is cut -/
theorem sl_tupQ : SlR X (fun x lo hi H Q => ∃ a xs, x = .ref a ∧ TupN H a xs ∧ ∀ (p : Addr) (H' : Hp), (∀ b o, H b = some o → H' b = some o) → TupN H' p (cutV xs lo hi) → Q (.ref p) H') := by
  intro pins s σ H x v vl vu lo hi sl Q I rx hs pl pu h
  obtain ⟨a, xs, e, ha, q⟩ := h
  refine sl_tupN pins s σ H x v vl vu lo hi sl Q I rx hs pl pu ⟨a, xs, e, .inl (.inr ⟨_, ha.choose_spec.1⟩), fun hw => ?_, fun hw p o ho hp => ?_⟩
  · refine q a H (fun _ _ h => h) ?_
    have : cutV xs lo hi = xs := by
      unfold cutV
      rw [hw.1, hw.2, List.drop_zero, Nat.sub_zero, List.take_length]
    rw [this]
    exact ha
  · refine q p _ (fun b u hb => ?_) ⟨o, upd_same, ho⟩
    rw [upd_ne (fun z => by rw [z, hp] at hb; cases hb)]
    exact hb
end
end Say
namespace Say
open PySem PySem.Spec PyProof.Rows L2
/-- what stands in the rows of a kind -/
def thingsM (rows : List (List (List Nat))) (kind : List Nat) : List (List (List Nat)) := (rows.filter fun r => decide (hdR r = kind)).map fun r => r.tail.map umE
theorem cut_tail (xs : List V) : cutV xs (some 1) none = xs.tail := by
  unfold cutV
  rw [show (some (1 : Int)) = some ((1 : Nat) : Int) from rfl, HT.sIx_nat, HT.sIx_none]
  cases xs with
  | nil => rfl
  | cons a r =>
    show ((a :: r).drop (min 1 (r.length + 1))).take ((r.length + 1) - min 1 (r.length + 1)) = r
    rw [Nat.min_eq_left (by omega)]
    show r.take (r.length + 1 - 1) = r
    rw [Nat.add_sub_cancel, List.take_length]
theorem strV_tail (r : List (List Nat)) : (strV r).tail = strV r.tail := by
  cases r <;> rfl
abbrev rTupOf (K : PySem.W.Frag) : List V → Hp → VK → Prop := fun xs H Q => ∃ p ys, xs = [.ref p] ∧ ((SqL K H p ys ∧ ∀ l, H l = none → Q (.ref l) (upd H l (.tup ys))) ∨ (SqT K H p ys ∧ Q (.ref p) H))
theorem take_filter_map {α β : Type} {l : List α} {i : Nat} {x : α} (h : l[i]? = some x) (p : α → Bool) (f : α → β) : ((l.take (i + 1)).filter p).map f = ((l.take i).filter p).map f ++ (if p x = true then [f x] else []) := by
  rw [take_snoc h, List.filter_append, List.map_append]
  congr 1
  by_cases c : p x = true
  · rw [if_pos c, List.filter_cons_of_pos c]
    rfl
  · rw [if_neg c, List.filter_cons_of_neg c]
    rfl
section
variable {P : Program} {w : World} {K : PySem.W.Frag} {mg : Str → Option Value} {base : Heap}
abbrev sTo : Stmt := topS 46
abbrev nTo : List Str := ["rows", "kind", "row", "word"]
theorem scTo : FnScope nTo ["rows", "kind"] (defScope sTo) := ⟨rfl, rfl, rfl, by decide +kernel, rfl, by decide +kernel, by decide +kernel⟩
/-- a tuple of tuples -/
def spTo (fr : Bool) : Sp := fun vs H Q _ => ∃ (D : Addr) (rows : List (List (List Nat))) (kind : List Nat), vs = [.ref D, .str (T kind)] ∧ LRows H D rows ∧ (∀ r ∈ rows, r ≠ []) ∧ rows.length ≤ 10000 ∧ (∀ r ∈ rows, r.length ≤ 10000) ∧
  ∀ (l : Addr) (ts : List Addr) (H' : Hp), Same H H' → (if fr = true then TupN H' l (ts.map V.ref) else H' l = some (.tup (ts.map V.ref))) → TRows H' ts (thingsM rows kind) → Q (.ref l) H'
theorem ok_to {f : Addr} {fd : FuncData} (fr : Bool) (F : Fun K "things_of" "things_of" sTo f fd) (B : Bn mg) (DU : Df P w K mg base "unmarked" ["word"] 1 spUm) : FnOk P w K mg base CX0 2 f fd ["rows", "kind"] (spTo fr) := by
  obtain ⟨fU, fdU, GU, kU, bU, mU⟩ := DU
  refine F.ok scTo (fun vs H Q E h => ?_) (fun cdv A outer s H vs Q E hr h => ?_)
  · obtain ⟨D, rows, kind, rfl, _⟩ := h
    rfl
  · obtain ⟨D, rows, kind, rfl, hL, hne, hlen, hlr, q⟩ := h
    suffices hh : ∀ (r : List V → Hp → VK → Prop), (∀ (D2 : Addr) (H' : Hp) (ts : List Addr), H' D2 = some (.lst (ts.map V.ref)) → Same H H' → TRows H' ts (thingsM rows kind) → r [.ref D2] H' Q) → 
        tRet (tCB r (tCons (tLc (iList K (tVar 0)) (gName 2) (tTest (tOp rEq (tOp (rIxL K) (tVar 2) (tC (.int 0))) (tVar 1))) (tCB (rTupOf K) (tCons (tLc (iList K (tSl (rSlL K) (tVar 2) (tPart (tC (.int 1))) tNoPart)) (gName 3) tYes (tCall spUm [] E0 (tCons (tVar 3) tNil)) [3]) tNil)) [2]) tNil)) { nx := fun _ H' => Q .non H', rt := Q } (start nTo [.ref D, .str (T kind)]) H by
      cases fr with
      | false =>
        refine ⟨_, pss_one (ps_ret (pe_callTy call_tuple_of (by rfl) B.tup (by decide +kernel) (pa_cons (pe_lc (own := [("row", 2)]) (g := gName 2)
          (tt := tTest (tOp rEq (tOp (rIxL K) (tVar 2) (tC (.int 0))) (tVar 1))) (te := tCB (rTupOf K) (tCons (tLc (iList K (tSl (rSlL K) (tVar 2) (tPart (tC (.int 1))) tNoPart)) (gName 3) tYes (tCall spUm [] E0 (tCons (tVar 3) tNil)) [3]) tNil)) rfl scTo.nd
          (pi_list (pv 0)) (blkOk_by (N := nTo) (sc := defScope sTo) (by decide +kernel)) (fun _ _ _ _ _ => pg_name (i := 2) scTo.nd rfl (.inl rfl)) (fun _ _ _ _ _ => pts_one (pt_cmpR op_eq (pe_ix ix_list (pv 2) pe_int (fun _ _ => rfl)) (pv 1) (nomark _)))
          (fun _ _ _ _ _ => pe_callTy call_tuple_of (by rfl) B.tup (by decide +kernel) (pa_cons (pe_lc (own := [("word", 3)]) (g := gName 3) rfl scTo.nd (pi_list (pe_slice sl_list (pv 2) (po_some pe_int) po_none)) (blkOk_by (by kernel_rfl)) (fun _ _ _ _ _ => pg_name (i := 3) scTo.nd rfl (.inl rfl)) (fun _ _ _ _ _ => pts_nil)
            (fun _ _ _ _ _ => pe_call GU hr (by rfl) mU kU bU .nil pass0 (pa_cons (pv 3) pa_nil))) pa_nil))) pa_nil))), ?_⟩
        refine hh _ fun D2 H' ts e1 e2 e3 => ⟨D2, _, rfl, .inl ⟨.inl (.inl e1), fun l hl => ?_⟩⟩
        have sl := same_new hl (.tup (ts.map V.ref))
        exact q l ts _ (e2.trans sl) upd_same (e3.same sl)
      | true =>
        refine ⟨_, pss_one (ps_ret (pe_callTy call_tupN (by rfl) B.tup (by decide +kernel) (pa_cons (pe_lc (own := [("row", 2)]) (g := gName 2)
          (tt := tTest (tOp rEq (tOp (rIxL K) (tVar 2) (tC (.int 0))) (tVar 1))) (te := tCB (rTupOf K) (tCons (tLc (iList K (tSl (rSlL K) (tVar 2) (tPart (tC (.int 1))) tNoPart)) (gName 3) tYes (tCall spUm [] E0 (tCons (tVar 3) tNil)) [3]) tNil)) rfl scTo.nd
          (pi_list (pv 0)) (blkOk_by (N := nTo) (sc := defScope sTo) (by decide +kernel)) (fun _ _ _ _ _ => pg_name (i := 2) scTo.nd rfl (.inl rfl)) (fun _ _ _ _ _ => pts_one (pt_cmpR op_eq (pe_ix ix_list (pv 2) pe_int (fun _ _ => rfl)) (pv 1) (nomark _)))
          (fun _ _ _ _ _ => pe_callTy call_tuple_of (by rfl) B.tup (by decide +kernel) (pa_cons (pe_lc (own := [("word", 3)]) (g := gName 3) rfl scTo.nd (pi_list (pe_slice sl_list (pv 2) (po_some pe_int) po_none)) (blkOk_by (by kernel_rfl)) (fun _ _ _ _ _ => pg_name (i := 3) scTo.nd rfl (.inl rfl)) (fun _ _ _ _ _ => pts_nil)
            (fun _ _ _ _ _ => pe_call GU hr (by rfl) mU kU bU .nil pass0 (pa_cons (pv 3) pa_nil))) pa_nil))) pa_nil))), ?_⟩
        refine hh _ fun D2 H' ts e1 e2 e3 => ⟨D2, _, rfl, .inl (.inl e1), fun l o ho hl => ?_⟩
        have sl := same_new hl (.frz o (.tup (ts.map V.ref)))
        exact q l ts _ (e2.trans sl) ⟨o, upd_same, ho⟩ (e3.same sl)
    intro rr fin
    obtain ⟨tr, hD, pr⟩ := id hL
    refine ⟨_, rfl, D, rfl, ⟨_, .inl (.inl hD)⟩, fun D2 hD2 => ?_⟩
    refine lc_it (walk_list (xs := tr.map V.ref)) (fun i H2 => ∃ ts : List Addr, H2 D2 = some (.lst (ts.map V.ref)) ∧ TRows H2 ts (thingsM (rows.take i) kind) ∧ Same H H2) ?_ (fun i H2 _ h => by obtain ⟨_, _, _, s⟩ := h; exact .inl (.inl (s _ _ hD))) ?_ ?_
    · exact ⟨[], upd_same, .nil, same_new hD2 _⟩
    · rintro i x H2 H2' hi ⟨ts, e1, e2, e3⟩ ⟨rfl, hx⟩
      rw [List.getElem?_map] at hx
      obtain ⟨t, ht, e⟩ := Option.map_eq_some_iff.mp hx
      subst e
      obtain ⟨r, hrr, hat⟩ := paired_at pr ht
      have hrm := List.mem_of_getElem? hrr
      have hat2 := e3 _ _ hat
      have nx := take_filter_map hrr (fun r => decide (hdR r = kind)) (fun r => r.tail.map umE)
      refine ⟨rfl, _, rfl, t, _, 0, .str (T (hdR r)), rfl, rfl, .inl (.inl hat2), atI_nat (j := 0) (strV_at (hd_at (hne r hrm))), _, rfl, rfl, _, rfl, ?_⟩
      refine ite2 (fun c => ?_) (fun c => ?_)
      · have c := T_inj (V.str.inj (of_decide_eq_true c))
        rw [if_pos (decide_eq_true c)] at nx
        refine ⟨_, rfl, _, rfl, t, _, rfl, .inl (.inl hat2), fun S hS => ?_⟩
        rw [cut_tail, strV_tail]
        have sS := same_new hS (.lst (strV r.tail))
        have hS1 : (upd H2' S (.lst (strV r.tail))) S = some (.lst (strV r.tail)) := upd_same
        generalize upd H2' S (.lst (strV r.tail)) = H3 at sS hS1 ⊢
        refine ⟨S, rfl, ⟨_, .inl (.inl hS1)⟩, fun D3 hD3 => ?_⟩
        refine lc_it (walk_list (xs := strV r.tail)) (fun j H4 => H4 D3 = some (.lst (strV ((r.tail.take j).map umE))) ∧ Same H3 H4) ?_ (fun j H4 _ h => .inl (.inl (h.2 _ _ hS1))) ?_ ?_
        · exact ⟨upd_same, same_new hD3 _⟩
        · rintro j x H4 H4' hj ⟨f1, f3⟩ ⟨rfl, hx⟩
          unfold strV at hx
          rw [List.map_map, List.getElem?_map] at hx
          obtain ⟨z, hz, e⟩ := Option.map_eq_some_iff.mp hx
          subst e
          refine ⟨rfl, _, rfl, z, rfl, _, f1, ?_, ?_, ?_⟩
          · have h1 := hlr r hrm
            have h2 := List.length_tail (l := r)
            rw [strV_len, List.length_map, List.length_take]
            exact Nat.lt_of_le_of_lt (show _ ≤ 10000 by omega) (by decide)
          · rw [upd_same, take_snoc hz]
            unfold strV
            rw [List.map_append, List.map_append, List.map_append]
            rfl
          · exact fun c u hc => by
              rw [upd_ne (ne_of_none hc hD3)]
              exact f3 _ _ hc
        rintro H4 ⟨f1, f3⟩
        rw [strV_len, List.take_length] at f1
        refine ⟨D3, _, rfl, .inl ⟨.inl (.inl f1), fun p hp => ?_⟩⟩
        have sp := same_new hp (.tup (strV (r.tail.map umE)))
        have s24 : Same H2' (upd H4 p (.tup (strV (r.tail.map umE)))) := (sS.trans f3).trans sp
        have e1' := s24 _ _ e1
        have lt : ts.length ≤ rows.length := by
          rw [paired_len e2]
          unfold thingsM
          rw [List.length_map]
          exact Nat.le_trans (List.length_filter_le _ _) (by rw [List.length_take]; omega)
        refine ⟨_, e1', ?_, ts ++ [p], ?_, ?_, ?_⟩
        · rw [List.length_map]
          exact Nat.lt_of_le_of_lt (show _ ≤ 10000 by omega) (by decide)
        · rw [upd_same, List.map_append]
          rfl
        · unfold thingsM
          rw [nx]
          have k : KT (upd H4 p (.tup (strV (r.tail.map umE)))) _ := kt_upd e1' (o := .lst (ts.map V.ref ++ [.ref p]))
          exact paired_app ((e2.same s24).kt k) (.cons (k.1 _ _ upd_same) .nil)
        · exact fun c u hc => by
            rw [upd_ne (ne_of_none hc hD2)]
            exact s24 _ _ (e3 _ _ hc)
      · have c : ¬ hdR r = kind := fun z => c (decide_eq_true (by rw [z]))
        rw [if_neg (by rw [decide_eq_false c]; exact Bool.false_ne_true), List.append_nil] at nx
        refine ⟨ts, e1, ?_, e3⟩
        unfold thingsM
        rw [nx]
        exact e2
    rintro H2 ⟨ts, e1, e2, e3⟩
    rw [List.length_map, paired_len pr, List.take_length] at e2
    exact fin D2 H2 ts e1 e3 e2
end
end Say
namespace Say
open PySem PySem.Spec PyProof.Rows L2
theorem hd_mark {r : List (List Nat)} (h : r ≠ []) (k : hdR r ≠ []) : hdR (markR r) = hdR r := by
  cases r with
  | nil => exact absurd rfl h
  | cons a t => exact mk_id k
theorem mark_no (r : List (List Nat)) : (markR r).contains [] = false := by
  rw [Bool.eq_false_iff]
  intro h
  rw [List.contains_iff_mem] at h
  obtain ⟨z, _, hz⟩ := List.mem_map.mp h
  exact mk_ne z hz
theorem good_exc : ∀ (es : List Exc) (last : List Nat), (last = kwL ∨ last = kwR ∨ last = kwW) → rowsGood last ((es.map excRow).map markR) = true
  | [], _, _ => rfl
  | e :: r, last, h => by
    have hh : hdR (markR (excRow e)) = kwW := hd_mark (r := excRow e) (by intro z; cases z) (by show kwW ≠ []; decide)
    have h1 : isRowM (markR (excRow e)) = true := by
      unfold isRowM
      rw [mark_no, hh]
      rfl
    have h2 : (follM last).contains kwW = true := by rcases h with rfl | rfl | rfl <;> decide +kernel
    show (isRowM (markR (excRow e)) && ((follM last).contains (hdR (markR (excRow e))) && rowsGood (hdR (markR (excRow e))) ((r.map excRow).map markR))) = true
    rw [h1, hh, h2, good_exc r kwW (.inr (.inr rfl))]
    rfl
theorem good_rul (es : List Exc) : ∀ (rs : List Rule) (last : List Nat), (last = kwL ∨ last = kwR) → rowsGood last ((rs.map ruleRow ++ es.map excRow).map markR) = true
  | [], last, h => good_exc es last (by rcases h with h | h <;> simp [h])
  | ρ :: r, last, h => by
    have hh : hdR (markR (ruleRow ρ)) = kwR := hd_mark (r := ruleRow ρ) (by intro z; cases z) (by show kwR ≠ []; decide)
    have h1 : isRowM (markR (ruleRow ρ)) = true := by
      unfold isRowM
      rw [mark_no, hh]
      rfl
    have h2 : (follM last).contains kwR = true := by rcases h with rfl | rfl <;> decide +kernel
    show (isRowM (markR (ruleRow ρ)) && ((follM last).contains (hdR (markR (ruleRow ρ))) && rowsGood (hdR (markR (ruleRow ρ))) ((r.map ruleRow ++ es.map excRow).map markR))) = true
    rw [h1, hh, h2, good_rul es r kwR (.inr rfl)]
    rfl
theorem good_words {L : List Nat} {rs : List Rule} {es : List Exc} (h : BookOk L rs es) : rowsGood [] (wordsM L rs es) = true := by
  have hh : hdR (markR [kwL, L]) = kwL := hd_mark (by intro z; cases z) (by show kwL ≠ []; decide)
  have h1 : isRowM (markR [kwL, L]) = true := by
    unfold isRowM
    rw [mark_no, hh]
    rfl
  show (isRowM (markR [kwL, L]) && ((follM []).contains (hdR (markR [kwL, L])) && rowsGood (hdR (markR [kwL, L])) ((rs.map ruleRow ++ es.map excRow).map markR))) = true
  rw [h1, hh, good_rul es rs kwL (.inl rfl)]
  decide +kernel
theorem things_rules {L : List Nat} {rs : List Rule} {es : List Exc} (h : BookOk L rs es) : thingsM (wordsM L rs es) kwR = rs.map fun ρ => [ρ.ah, ρ.ow, ρ.be, ρ.so] := by
  have hR : ∀ l : List Rule, (∀ ρ ∈ l, RowOk (ruleRow ρ)) → thingsM ((l.map ruleRow).map markR) kwR = l.map fun ρ => [ρ.ah, ρ.ow, ρ.be, ρ.so] := by
    intro l hl
    induction l with
    | nil => rfl
    | cons ρ t ih =>
      have hh : hdR (markR (ruleRow ρ)) = kwR := hd_mark (r := ruleRow ρ) (by intro z; cases z) (by show kwR ≠ []; decide)
      have b := row_back (hl ρ (List.mem_cons_self ..))
      unfold thingsM at ih ⊢
      rw [List.map_cons, List.map_cons, List.filter_cons_of_pos (p := fun r => decide (hdR r = kwR)) (decide_eq_true hh), List.map_cons, ih fun x hx => hl x (List.mem_cons_of_mem _ hx), List.map_cons]
      exact congrArg (fun z => z :: _) (List.cons.inj b).2
  have hE : ∀ l : List Exc, thingsM ((l.map excRow).map markR) kwR = [] := by
    intro l
    induction l with
    | nil => rfl
    | cons e t ih =>
      have hh : hdR (markR (excRow e)) = kwW := hd_mark (r := excRow e) (by intro z; cases z) (by show kwW ≠ []; decide)
      unfold thingsM at ih ⊢
      rw [List.map_cons, List.map_cons, List.filter_cons_of_neg (by rw [hh]; decide), ih]
  have hA : thingsM (wordsM L rs es) kwR = thingsM ((rs.map ruleRow).map markR) kwR ++ thingsM ((es.map excRow).map markR) kwR := by
    have hh : hdR (markR [kwL, L]) = kwL := hd_mark (by intro z; cases z) (by show kwL ≠ []; decide)
    unfold thingsM wordsM rowsM
    rw [List.map_cons, List.filter_cons_of_neg (by rw [hh]; decide), List.map_append, List.filter_append, List.map_append]
  rw [hA, hE, List.append_nil]
  exact hR rs fun ρ hρ => ruleRow_ok h.lt (h.rl ρ hρ)
theorem things_excs {L : List Nat} {rs : List Rule} {es : List Exc} (h : BookOk L rs es) : thingsM (wordsM L rs es) kwW = es.map fun e => [e.1, e.2] := by
  have hR : ∀ l : List Exc, (∀ e ∈ l, RowOk (excRow e)) → thingsM ((l.map excRow).map markR) kwW = l.map fun e => [e.1, e.2] := by
    intro l hl
    induction l with
    | nil => rfl
    | cons e t ih =>
      have hh : hdR (markR (excRow e)) = kwW := hd_mark (r := excRow e) (by intro z; cases z) (by show kwW ≠ []; decide)
      have b := row_back (hl e (List.mem_cons_self ..))
      unfold thingsM at ih ⊢
      rw [List.map_cons, List.map_cons, List.filter_cons_of_pos (p := fun r => decide (hdR r = kwW)) (decide_eq_true hh), List.map_cons, ih fun x hx => hl x (List.mem_cons_of_mem _ hx), List.map_cons]
      exact congrArg (fun z => z :: _) (List.cons.inj b).2
  have hE : ∀ l : List Rule, thingsM ((l.map ruleRow).map markR) kwW = [] := by
    intro l
    induction l with
    | nil => rfl
    | cons e t ih =>
      have hh : hdR (markR (ruleRow e)) = kwR := hd_mark (r := ruleRow e) (by intro z; cases z) (by show kwR ≠ []; decide)
      unfold thingsM at ih ⊢
      rw [List.map_cons, List.map_cons, List.filter_cons_of_neg (by rw [hh]; decide), ih]
  have hA : thingsM (wordsM L rs es) kwW = thingsM ((rs.map ruleRow).map markR) kwW ++ thingsM ((es.map excRow).map markR) kwW := by
    have hh : hdR (markR [kwL, L]) = kwL := hd_mark (by intro z; cases z) (by show kwL ≠ []; decide)
    unfold thingsM wordsM rowsM
    rw [List.map_cons, List.filter_cons_of_neg (by rw [hh]; decide), List.map_append, List.filter_append, List.map_append]
  rw [hA, hE, List.nil_append]
  exact hR es fun e he => excRow_ok h.lt (h.ex e he)
theorem paired_back {α β γ : Type} {F : α → β → Prop} {G : α → γ → Prop} {g : γ → β} (h : ∀ x c, F x (g c) → G x c) : ∀ {ts : List α} {l : List γ}, Paired F ts (l.map g) → Paired G ts l
  | _, [], .nil => .nil
  | _, _ :: _, .cons a r => .cons (h _ _ a) (paired_back h r)
theorem foll_mem {last z : List Nat} (hl : last ∈ keysN) (h : (follM last).contains z = true) : z ∈ keysN := by
  rw [List.contains_iff_mem] at h
  have : ∀ l ∈ keysN, ∀ y ∈ follM l, y ∈ keysN := by decide +kernel
  exact this last hl z h
section
variable {P : Program} {w : World} {K : PySem.W.Frag} {mg : Str → Option Value} {base : Heap}
abbrev sCr : Stmt := topS 44
abbrev nCr : List Str := ["rows", "last", "number", "words"]
theorem scCr : FnScope nCr ["rows"] (defScope sCr) := ⟨rfl, rfl, rfl, by decide +kernel, rfl, by decide +kernel, by decide +kernel⟩
def spCr : Sp := fun vs H Q _ => ∃ (D : Addr) (rows : List (List (List Nat))), vs = [.ref D] ∧ LRows H D rows ∧ (∀ r ∈ rows, r ≠ []) ∧ rowsGood [] rows = true ∧ ∀ (H' : Hp), Same H H' → Q .non H'
theorem ok_cr {f : Addr} {fd : FuncData} (F : Fun K "check_rows" "check_rows" sCr f fd) (B : Bn mg) (NK : NoteK K w mg) (DI : Df P w K mg base "is_row" ["words"] 1 spIr) : FnOk P w K mg base CX0 2 f fd ["rows"] spCr := by
  obtain ⟨fI, fdI, GI, kI, bI, mI⟩ := DI
  obtain ⟨_, ⟨aF, mF, gF⟩⟩ := NK
  refine F.ok scCr (fun vs H Q E h => ?_) (fun cdv A outer s H vs Q E hr h => ?_)
  · obtain ⟨D, rows, rfl, _⟩ := h
    rfl
  · obtain ⟨D, rows, rfl, ⟨tr, hD, pr⟩, hne, hg, q⟩ := h
    refine ⟨_, pss_cons (ps_set (i := 1) scCr.nd rfl (.inl rfl) pe_str)
      (pss_one (ps_for PassesOwn.never rfl (pi_enum (by rfl) B.enu (pa_cons (pv 0) pa_nil)) (pg_tup (by rfl) (pgs_cons (pg_name (i := 2) scCr.nd rfl (.inl rfl)) (pgs_cons (pg_name (i := 3) scCr.nd rfl (.inl rfl)) pgs_nil)))
        (pss_cons (ps_if (PW.pt (pw_or (pt_not (pt_val (pe_call GI hr (by rfl) mI kI bI .nil pass0 (pa_cons (pv 3) pa_nil))))
            (pw_or1 (pt_cmpR op_notIn_seq (pe_ix ix_list (pv 3) pe_int (fun _ _ => rfl)) (pe_ix ix_kdict (pe_glob (v := .ref aF) rfl mF rfl) (pv 1) (fun _ _ => rfl)) rfl)))) (pss_one ps_never) pss_nil)
        (pss_one (ps_set (i := 1) scCr.nd rfl (.inl rfl) (pe_ix ix_list (pv 3) pe_int (fun _ _ => rfl))))))), ?_⟩
    refine ⟨_, rfl, D, _, rfl, .inl (.inl hD), for_it (walk_enum (xs := tr.map V.ref)) (fun i σ H2 => Same H H2 ∧ ∃ last v2 v3, σ = [some (.ref D), some (.str (T last)), v2, v3] ∧ last ∈ keysN ∧ rowsGood last (rows.drop i) = true)
      ⟨Same.refl H, [], _, _, by rw [← show Str.ofString "" = T [] from nil_eq]; rfl, by decide +kernel, hg⟩ (fun i σ H2 _ h => .inl (.inl (h.1 _ _ hD))) ?_ ?_⟩
    · rintro i x σ H2 H3 hi ⟨s2, last, v2, v3, rfl, hk, hgo⟩ ⟨t, x1, x2, rfl, ht, rfl, g1, g2⟩
      cases g1
      have g2 : (tr.map V.ref)[i]? = some x2 := g2
      rw [List.getElem?_map] at g2
      obtain ⟨a, ha, e⟩ := Option.map_eq_some_iff.mp g2
      subst e
      obtain ⟨r, hrr, hat⟩ := paired_at pr ha
      have hrn := hne r (List.mem_of_getElem? hrr)
      have sm := same_new ht (.tup [.int (i : Nat), .ref a])
      have hat3 := sm _ _ (s2 _ _ hat)
      have hd : rows.drop i = r :: rows.drop (i + 1) := by
        have hi2 := (List.getElem?_eq_some_iff.mp hrr)
        rw [List.drop_eq_getElem_cons hi2.1, hi2.2]
      rw [hd] at hgo
      have hgo : (isRowM r && ((follM last).contains (hdR r) && rowsGood (hdR r) (rows.drop (i + 1)))) = true := hgo
      rw [Bool.and_eq_true, Bool.and_eq_true] at hgo
      obtain ⟨p, kd, sq⟩ := gF last hk
      refine ⟨t, _, rfl, .inl (.inl upd_same), rfl, _, _, rfl, _, _, rfl, rfl, ?_⟩
      refine ⟨_, rfl, a, r, rfl, hat3, hrn, ?_⟩
      rw [hgo.1]
      refine ⟨true, rfl, iteF ?_⟩
      refine ⟨_, rfl, a, _, 0, .str (T (hdR r)), rfl, rfl, .inl (.inl hat3), atI_nat (j := 0) (strV_at (hd_at hrn)), _, rfl, aF, T last, _, rfl, rfl, kd, p, _, rfl, .inr (sq _), rfl, strV_flat _, ?_⟩
      refine ⟨_, rfl, ?_⟩
      rw [inV_str, hgo.2.1]
      refine iteF ?_
      refine ⟨_, rfl, a, _, 0, .str (T (hdR r)), rfl, rfl, .inl (.inl hat3), atI_nat (j := 0) (strV_at (hd_at hrn)), ?_⟩
      exact ⟨s2.trans sm, hdR r, _, _, rfl, foll_mem hk hgo.2.1, hgo.2.2⟩
    · rintro σ H2 ⟨s2, last, v2, v3, rfl, _⟩
      exact q H2 s2
abbrev sRd : Stmt := topS 43
abbrev nRd : List Str := ["text", "rows", "row"]
theorem scRd : FnScope nRd ["text"] (defScope sRd) := ⟨rfl, rfl, rfl, by decide +kernel, rfl, by decide +kernel, by decide +kernel⟩
def spRd : Sp := fun vs H Q _ => ∃ (L : List Nat) (rs : List Rule) (es : List Exc), vs = [.str (T (textM L rs es))] ∧ BookOk L rs es ∧ ∀ (b : Addr) (H' : Hp), Same H H' → BookAt H' b L rs es → Q (.ref b) H'
theorem ok_rd {f fT : Addr} {fd fdT : FuncData} (F : Fun K "read" "read" sRd f fd) (B : Bn mg) (DR : Df P w K mg base "check_rows" ["rows"] 2 spCr) (DU : Df P w K mg base "unmarked" ["word"] 1 spUm)
    (GT : ∀ fr, FnOk P w K mg base CX0 2 fT fdT ["rows", "kind"] (spTo fr)) (kT : PySem.W.keepIn K (.ref fT) = true) (bT : Binds K fdT ["rows", "kind"] []) (mT : mg "things_of" = some (.ref fT))
    (DC : Df P w K mg base "checked_book" ["book"] 5 spCh) : FnOk P w K mg base CX0 6 f fd ["text"] spRd := by
  obtain ⟨fR, fdR, GR, kR, bR, mR⟩ := DR
  obtain ⟨fU, fdU, GU, kU, bU, mU⟩ := DU
  obtain ⟨fC, fdC, GC, kC, bC, mC⟩ := DC
  refine F.ok scRd (fun vs H Q E h => ?_) (fun cdv A outer s H vs Q E hr h => ?_)
  · obtain ⟨L, rs, es, rfl, _⟩ := h
    rfl
  · obtain ⟨L, rs, es, rfl, ho, q⟩ := h
    have hr1 : Room 1 _ := hr.mono (by decide)
    have hr2 : Room 2 _ := hr.mono (by decide)
    refine ⟨_, pss_cons (ps_if (pt_not (pt_val (pe_callB call_isi (by rfl) B.isi (by decide +kernel) (pa_cons (pv 0) (pa_cons (pe_bltn (v := .ty "str") rfl B.str (by decide +kernel) rfl) pa_nil))))) (pss_one ps_never) pss_nil)
      (pss_cons (ps_setLc (i := 1) (own := [("row", 2)]) (g := gName 2) rfl scRd.nd rfl rfl (sw_true rfl rfl rfl (by decide +kernel)) (pi_list (pe_split (pv 0) pe_str)) (blkOk_by (N := nRd) (sc := defScope sRd) (by decide +kernel)) (fun _ _ _ _ _ => pg_name (i := 2) scRd.nd rfl (.inl rfl)) (fun _ _ _ _ _ => pts_nil)
          (fun _ _ _ _ _ => pe_split (pv 2) pe_str))
      (pss_cons (ps_expr (pe_call GR hr2 (by rfl) mR kR bR .nil pass0 (pa_cons (pv 1) pa_nil)))
      (pss_one (ps_ret (pe_call GC hr (by rfl) mC kC bC .nil pass0 (pa_cons (pe_tup (pa_cons (pe_call GU hr1 (by rfl) mU kU bU .nil pass0 (pa_cons (pe_ix ix_list (pe_ix ix_list (pv 1) pe_int (fun _ _ => rfl)) pe_int (fun _ _ => rfl)) pa_nil))
        (pa_cons (pe_call (GT false) hr2 (by rfl) mT kT bT .nil pass0 (pa_cons (pv 1) (pa_cons pe_str pa_nil))) (pa_cons (pe_call (GT true) hr2 (by rfl) mT kT bT .nil pass0 (pa_cons (pv 1) (pa_cons pe_str pa_nil))) pa_nil)))) pa_nil)))))), ?_⟩
    have tl := text_len ho
    have hl := rows_len ho
    refine ⟨_, rfl, _, _, .type "str", _, true, rfl, ClsV.ty _, .base (.str _), kit_ty (by decide +kernel), true, rfl, iteF ?_⟩
    refine ⟨_, rfl, ⟨_, rfl⟩, _, _, rfl, rfl, (by decide +kernel), (by rw [T_len]; exact small (by omega)), fun W hW => ?_⟩
    rw [nl_eq, split_rows ho]
    have sW := same_new hW (.lst ((((wordsM L rs es).map lineM).map T).map V.str))
    have hW1 : (upd H W (.lst ((((wordsM L rs es).map lineM).map T).map V.str))) W = some (.lst ((((wordsM L rs es).map lineM).map T).map V.str)) := upd_same
    generalize upd H W (.lst ((((wordsM L rs es).map lineM).map T).map V.str)) = H1 at sW hW1 ⊢
    have lw : (wordsM L rs es).length = (rowsM L rs es).length := by unfold wordsM; rw [List.length_map]
    refine ⟨W, rfl, ⟨_, .inl (.inl hW1)⟩, fun D hD => ?_⟩
    refine lc_it (walk_list (xs := (((wordsM L rs es).map lineM).map T).map V.str)) (fun i H2 => (∃ ts : List Addr, H2 D = some (.lst (ts.map V.ref)) ∧ Paired (fun t r => H2 t = some (.lst (strV r))) ts ((wordsM L rs es).take i) ∧ ∀ t ∈ ts, t ≠ D) ∧ Same H1 H2) ?_ (fun i H2 _ h => .inl (.inl (h.2 _ _ hW1))) ?_ ?_
    · exact ⟨⟨[], upd_same, .nil, fun t h => (nomatch h)⟩, same_new hD _⟩
    · rintro i x H2 H2' hi ⟨⟨ts, e1, e2, e4⟩, e3⟩ ⟨rfl, hx⟩
      rw [List.map_map, List.map_map, List.getElem?_map] at hx
      obtain ⟨mr, hmr, e⟩ := Option.map_eq_some_iff.mp hx
      subst e
      obtain ⟨r, hrr, e⟩ := Option.map_eq_some_iff.mp (show ((rowsM L rs es)[i]?).map markR = some mr by rw [← List.getElem?_map]; exact hmr)
      subst e
      have ro := rows_ok ho r (List.mem_of_getElem? hrr)
      have ll := line_len ro
      refine ⟨rfl, _, rfl, ⟨_, rfl⟩, _, _, rfl, rfl, (by decide +kernel), (by show (T (lineM (markR r))).length + 2 ≤ _; rw [T_len]; exact small (by omega)), fun p hp => ?_⟩
      rw [sp_eq, show Txt.split (T (lineM (markR r))) (T [32]) = (markR r).map T from split_row ro]
      have sp := same_new hp (.lst (((markR r).map T).map V.str))
      have e1' := sp _ _ e1
      have npD : p ≠ D := fun z => by rw [z, e1] at hp; cases hp
      have lt : ts.length ≤ 21 := by
        rw [paired_len e2, List.length_take]
        omega
      refine ⟨_, e1', ?_, ⟨ts ++ [p], ?_, ?_, ?_⟩, ?_⟩
      · rw [List.length_map]
        exact Nat.lt_of_le_of_lt lt (by decide)
      · rw [upd_same, List.map_append]
        rfl
      · rw [take_snoc hmr]
        refine paired_app ?_ (.cons ?_ .nil)
        · have : ∀ {ts : List Addr} {l : List (List (List Nat))}, (∀ t ∈ ts, t ≠ D) → Paired (fun t r => H2' t = some (.lst (strV r))) ts l → Paired (fun t r => (upd (upd H2' p (.lst (((markR r).map T).map V.str))) D (.lst (ts.map V.ref ++ [.ref p]))) t = some (.lst (strV r))) ts l → True := fun _ _ _ => trivial
          have go : ∀ {ts' : List Addr} {l : List (List (List Nat))} {o : HO}, (∀ t ∈ ts', t ≠ D) → Paired (fun t r => H2' t = some (.lst (strV r))) ts' l → Paired (fun t r' => (upd (upd H2' p (.lst (((markR r).map T).map V.str))) D o) t = some (.lst (strV r'))) ts' l := by
            intro ts' l o hn hp'
            induction hp' with
            | nil => exact .nil
            | cons a t ih => exact .cons (by rw [upd_ne (hn _ (List.mem_cons_self ..))]; exact sp _ _ a) (ih fun x hx => hn x (List.mem_cons_of_mem _ hx))
          exact go e4 e2
        · rw [upd_ne npD, upd_same]
          rfl
      · intro t ht
        rcases List.mem_append.mp ht with ht | ht
        · exact e4 t ht
        · rw [List.mem_singleton.mp ht]; exact npD
      · exact fun c u hc => by
          rw [upd_ne (ne_of_none hc hD)]
          exact sp _ _ (e3 _ _ hc)
    rintro H2 ⟨⟨ts, e1, e2, e4⟩, e3⟩
    have le : ((((wordsM L rs es).map lineM).map T).map V.str).length = (wordsM L rs es).length := by rw [List.length_map, List.length_map, List.length_map]
    rw [le, List.take_length] at e2
    have LR : LRows H2 D (wordsM L rs es) := ⟨ts, e1, e2⟩
    have hne : ∀ r ∈ wordsM L rs es, r ≠ [] := fun r hr => by
      obtain ⟨r', h1, rfl⟩ := List.mem_map.mp hr
      have := (rows_ok ho r' h1).l1
      intro z
      unfold markR at z
      rw [List.map_eq_nil_iff.mp z] at this
      exact absurd this (by decide)
    have hlr : ∀ r ∈ wordsM L rs es, r.length ≤ 10000 := fun r hr => by
      obtain ⟨r', h1, rfl⟩ := List.mem_map.mp hr
      have := (rows_ok ho r' h1).l5
      unfold markR
      rw [List.length_map]
      omega
    refine ⟨_, rfl, D, _, rfl, LR, hne, good_words ho, fun H3 s3 => ?_⟩
    have LR3 := LR.same s3
    obtain ⟨ts3, d3, p3⟩ := id LR3
    obtain ⟨t0, ht0, hr0⟩ := paired_at' p3 (i := 0) (y := markR [kwL, L]) rfl
    have hLne : L ≠ [] := fun z => by have := ho.lt.l2; rw [z] at this; exact absurd this (by decide)
    have hL45 : L ≠ [45] := fun z => by have := ho.lt.l2; rw [z] at this; exact absurd this (by decide)
    have x0 : (ts3.map V.ref)[0]? = some (.ref t0) := by rw [List.getElem?_map, ht0]; rfl
    refine ⟨_, rfl, D, _, 0, .ref t0, rfl, rfl, .inl (.inl d3), atI_nat (j := 0) x0, t0, _, 1, .str (T L), rfl, rfl, .inl (.inl hr0), atI_nat (j := 1) (by show some (V.str (T (mkE L))) = _; rw [mk_id hLne]), L, rfl, ?_⟩
    rw [show umE L = L from if_neg hL45]
    refine ⟨_, rfl, D, _, kwR, (by rw [show (V.str "rule") = V.str (T kwR) from congrArg V.str kwR_eq] <;> rfl), LR3, hne, by rw [lw]; omega, hlr, fun R tsR H4 s4 hR pR => ?_⟩
    have hR : H4 R = some (.tup (tsR.map V.ref)) := hR
    have LR4 := LR3.same s4
    refine ⟨_, rfl, D, _, kwW, (by rw [show (V.str "word") = V.str (T kwW) from congrArg V.str kwW_eq] <;> rfl), LR4, hne, by rw [lw]; omega, hlr, fun X tsX H5 s5 hX pX => ?_⟩
    have hX : TupN H5 X (tsX.map V.ref) := hX
    rw [things_rules ho] at pR
    rw [things_excs ho] at pX
    refine ⟨(by show 3 ≤ sizeLine; decide), fun b hb => ?_⟩
    have sb := same_new hb (.tup [.str (T L), .ref R, .ref X])
    have HB : BookAt (upd H5 b (.tup [.str (T L), .ref R, .ref X])) b L rs es := ⟨R, X, upd_same, ⟨tsR, (s5.trans sb) _ _ hR, paired_back (F := fun t r => H4 t = some (.tup (strV r))) (fun t ρ h => (s5.trans sb) _ _ h) pR⟩, ⟨tsX, hX.kt (.of sb), paired_back (F := fun t r => H5 t = some (.tup (strV r))) (fun t e h => sb _ _ h) pX⟩⟩
    refine ⟨b, L, rs, es, rfl, HB, ho, fun H6 s6 => ?_⟩
    exact q b H6 (((((sW.trans e3).trans s3).trans s4).trans s5).trans (sb.trans s6)) (HB.kt (.of s6))
end
end Say
namespace Say
open PySem PySem.Spec PyProof.Rows L2
theorem tyL {K : PySem.W.Frag} {H : Hp} {a : Addr} {xs : List V} (h : SqL K H a xs) : TyX K H (.ref a) (.type "list") := by
  rcases h with (h | ⟨o, h⟩) | ⟨o, its, n, h, hc, _⟩
  · exact .base (.lst h)
  · exact .base (.frz h)
  · exact .kList h hc
theorem tyT {K : PySem.W.Frag} {H : Hp} {a : Addr} {xs : List V} (h : SqT K H a xs) : TyX K H (.ref a) (.type "tuple") := by
  rcases h with (h | ⟨o, h⟩) | ⟨o, its, n, h, hc, _⟩
  · exact .base (.tup h)
  · exact .fTuple h
  · exact .kTuple h hc
theorem seqT_same {K : PySem.W.Frag} {H H' : Hp} {a : Addr} {xs : List V} (e : Same H H') (h : SqT K H a xs) : SqT K H' a xs := by
  rcases h with (h | ⟨o, h⟩) | h
  · exact .inl (.inl (e _ _ h))
  · exact .inl (.inr ⟨o, e _ _ h⟩)
  · exact .inr h
def NoTup (K : PySem.W.Frag) (H : Hp) (v : V) : Prop := v = .non ∨ (∃ z, v = .str z) ∨ (∃ i, v = .int i) ∨ ∃ a xs, v = .ref a ∧ SqL K H a xs
def NoLst (K : PySem.W.Frag) (H : Hp) (v : V) : Prop := v = .non ∨ (∃ z, v = .str z) ∨ (∃ i, v = .int i) ∨ ∃ a xs, v = .ref a ∧ SqT K H a xs
theorem NoTup.ty {K : PySem.W.Frag} {H : Hp} {v : V} (h : NoTup K H v) : ∃ t, TyX K H v (.type t) ∧ kitB t "tuple" = some false := by
  rcases h with rfl | ⟨z, rfl⟩ | ⟨i, rfl⟩ | ⟨a, xs, rfl, h⟩
  · exact ⟨_, .base .non, by decide +kernel⟩
  · exact ⟨_, .base (.str _), by decide +kernel⟩
  · exact ⟨_, .base (.int _), by decide +kernel⟩
  · exact ⟨_, tyL h, by decide +kernel⟩
theorem NoLst.ty {K : PySem.W.Frag} {H : Hp} {v : V} (h : NoLst K H v) : ∃ t, TyX K H v (.type t) ∧ kitB t "list" = some false := by
  rcases h with rfl | ⟨z, rfl⟩ | ⟨i, rfl⟩ | ⟨a, xs, rfl, h⟩
  · exact ⟨_, .base .non, by decide +kernel⟩
  · exact ⟨_, .base (.str _), by decide +kernel⟩
  · exact ⟨_, .base (.int _), by decide +kernel⟩
  · exact ⟨_, tyT h, by decide +kernel⟩
theorem NoTup.same {K : PySem.W.Frag} {H H' : Hp} {v : V} (h : NoTup K H v) (s : Same H H') : NoTup K H' v := by
  rcases h with h | h | h | ⟨a, xs, h1, h2⟩
  · exact .inl h
  · exact .inr (.inl h)
  · exact .inr (.inr (.inl h))
  · exact .inr (.inr (.inr ⟨a, xs, h1, Same.seq s h2⟩))
/-- no text -/
def NoStr (K : PySem.W.Frag) (H : Hp) (v : V) : Prop := v = .non ∨ (∃ i, v = .int i) ∨ (∃ a xs, v = .ref a ∧ SqL K H a xs) ∨ ∃ a xs, v = .ref a ∧ SqT K H a xs
theorem NoStr.ty {K : PySem.W.Frag} {H : Hp} {v : V} (h : NoStr K H v) : ∃ t, TyX K H v (.type t) ∧ kitB t "str" = some false := by
  rcases h with rfl | ⟨i, rfl⟩ | ⟨a, xs, rfl, h⟩ | ⟨a, xs, rfl, h⟩
  · exact ⟨_, .base .non, by decide +kernel⟩
  · exact ⟨_, .base (.int _), by decide +kernel⟩
  · exact ⟨_, tyL h, by decide +kernel⟩
  · exact ⟨_, tyT h, by decide +kernel⟩
/-- a text, not too long, or none -/
def VOk (K : PySem.W.Frag) (H : Hp) (v : V) : Prop := (∃ z : List Nat, v = .str (T z) ∧ z.length ≤ 100) ∨ NoStr K H v
theorem NoStr.same {K : PySem.W.Frag} {H H' : Hp} {v : V} (h : NoStr K H v) (s : Same H H') : NoStr K H' v := by
  rcases h with h | h | ⟨a, xs, h1, h2⟩ | ⟨a, xs, h1, h2⟩
  · exact .inl h
  · exact .inr (.inl h)
  · exact .inr (.inr (.inl ⟨a, xs, h1, Same.seq s h2⟩))
  · exact .inr (.inr (.inr ⟨a, xs, h1, seqT_same s h2⟩))
theorem VOk.same {K : PySem.W.Frag} {H H' : Hp} {v : V} (h : VOk K H v) (s : Same H H') : VOk K H' v := by
  rcases h with h | h
  · exact .inl h
  · exact .inr (h.same s)
end Say
namespace PySem
namespace XBadBook
open PySem.W PySem.Calls PyProof.Rows PySem.HandSPX
/-! ### the text of BadBook.__init__ -/
abbrev sEx : Stmt := L2.inClass (Say.topS 2) 0
abbrev iA : Arguments := L2.defArgs sEx
abbrev iB : List Stmt := L2.defBody sEx
abbrev iS : Scope := L2.defScope sEx
def eF : Expr := match iB with
  | .Expr (.Call _ (e :: _) _ _) _ :: _ => e
  | _ => .Constant .none 0 ⟨0, 0, 0, 0⟩
theorem eF_eq : ∃ c1 c2 d2 c3 c4 d4 c0, eF = .JoinedStr [.Constant (.str "the book can't be: part ") 0 c1, .FormattedValue (.Name "part" c2) (-1) none d2, .Constant (.str ", number ") 0 c3, .FormattedValue (.Name "number" c4) (-1) none d4] c0 := ⟨_, _, _, _, _, _, _, rfl⟩
theorem slen (x y : Str) : (x ++ y).length = x.length + y.length := by rw [TL.len_tl, TL.tl_append, List.length_append, ← TL.len_tl, ← TL.len_tl]
theorem iS_cell : ∀ y ∈ iS.names, y.2 ≠ .cell := by decide +kernel
/-- what the written part says of BadBook, at C, and of its __init__, at fI -/
structure ExTxt (P : Program) (K : Frag) (mg : Str → Option Value) (C fI : Addr) : Prop where
  gC : mg "BadBook" = some (.ref C)
  sB : mg "super" = none
  cls : ∃ nm q N bs bm sn sub ab col dd k0 k1 k2 k3 k5, K.lookup C = some (excClassObj nm q C N bs bm true sn sub ab col dd k0 k1 k2 k3 k5 "ValueError.__new__") ∧ refsVE bm = true
  sa : findIn K (.ref C) "__setattr__" = some (some (.builtin "object.__setattr__"))
  noP0 : findIn K (.ref C) "part" = some none
  noP1 : findIn K (.ref C) "number" = some none
  iC : findIn K (.ref C) "__init__" = some (some (.ref fI))
  tC : typeIn K (.ref fI) = some (.type "function")
  kC : keepIn K (.ref C) = true
  exC : subIn K (.ref C) (.type "BaseException") = some true
  tyC : typeIn K (.ref C) = some (.type "type")
  sup : ks_superIn K C C "__init__" = some (some (.builtin "ValueError.__init__"))
  subV : subIn K (.ref C) (.type "ValueError") = some true
  any : nsIn K cStatics "thirdparty.any" = some none
  main : (P.main.scope.names.lookup ("super" : Str)).isSome = false
  fn : ∃ (oc : Value) (od : Option Addr) (doc pm : Value) (an : Option Addr) (cda cc : Addr) (ct : Value) (osl : Array (Option Value)),
    K.lookup fI = some ⟨oc, od, .func (ksFn "__init__" "BadBook.__init__" iA iB iS .none .none doc pm an (.ref cda) ct cc), osl⟩ ∧ codeIn K (.ref cda) "BadBook.__init__" = true ∧
    (∃ cl cld csl, K.lookup cc = some ⟨cl, cld, .cell (some (.ref C)), csl⟩) ∧ ∃ ccl cdd vs ccs file tf, K.lookup cda = some ⟨ccl, cdd, .fields vs, ccs⟩ ∧ vs[2]? = some (.str file tf) ∧ ((P.main.file : Str) == file) = true
/-- what __init__ leaves of a fresh exception at x -/
structure InitEnd (h h' : Heap) (x C dx : Addr) (v0 v1 : Value) : Prop where
  keep : ∀ b o, b ≠ x → h.get? b = some o → h'.get? b = some o
  obj : ∃ t1 : Addr, h'.get? x = some { cls := .ref C, dict := some dx, data := .fields #[.ref t1, .none, .none, .none, .bool false, .none] }
  dbig : h.objs.size ≤ dx
  dne : dx ≠ x
  ns : h'.Ns1 dx (fun y => if y = "number" then some v1 else if y = "part" then some v0 else none)
section
variable {prog : Program} {w : World} {A : Around} {E : Value → Shared → Prop} {R : Result → Shared → Prop} {s : Shared} {K : Frag} {mg : Str → Option Value} {C fI : Addr} {base : Heap}
theorem ld {M : Model} {s : Shared} {env : Env} {m : Str → Option Value} {x : Str} {pos : Pos} {v : Value} {Q : Value → Shared → Prop} {A : Around} {E : Value → Shared → Prop} (hn : s.heap.Ns env.locals m) (hv : m x = some v) (h : Q v s)
    (hk : env.scope.kind = .function) (hl : env.kindOf x = some .local) (hd : (x == ("__debug__" : Str)) = false := by decide) :
    wpAny M A (eval (.Name x pos) env) Q E s := wpAny_Name (wpAny_loadName_local hk hl hn hv h) hd
theorem ex_init (T : ExTxt prog K mg C fI) {x t0 : Addr} {i : Int} {ti : Tok} {j : Int} {tj : Tok} (B : L2.Mod K mg base) (kb : ∀ b o, base.get? b = some o → s.heap.get? b = some o) (hx : s.heap.get? x = some (excO C t0)) (hnx : base.get? x = none) (hi : i.natAbs.log2 < 1920) (hi2 : (toString i : Str).length ≤ 1000) (hj : j.natAbs.log2 < 1920) (hj2 : (toString j : Str).length ≤ 1000) (hroom : A.depth < recursionLimit)
    (hq : ∀ h' tk dx, InitEnd s.heap h' x C dx (.int i ti) (.int j tj) → R (.ok (.ret .none)) { s with heap := h', toks := tk }) :
    codeAny (model prog w) A (.call (.ref fI) ⟨[.ref x, .int i ti, .int j tj], []⟩) R s := by
  obtain ⟨oc, od, doc, pm, an, cda, cc, ct, osl, ho, hcd, ⟨cl, cld, csl, hcell⟩, ccl, cdd, vs, ccs, file, tf, hcode, hvs, hfile⟩ := T.fn
  obtain ⟨nm, q, N, bs, bm, sn, sub, ab, col, dd, k0, k1', k2, k3, k5, hC, hbm⟩ := T.cls
  obtain ⟨hp, g, dr, tk0, os⟩ := s
  have hcl : clsIn K C = some { name := nm, bases := bs, mro := .ref C :: bm, ns := N, qualname := q, hasDict := true, slotNames := sn, subclasses := sub, abstract := ab, collection := col, hasDel := false } := by unfold clsIn; rw [hC] <;> rfl
  have X : K.In hp := B.kin.keeps kb
  have nl : hp.NoLimit := B.nolimit.keeps kb
  refine ks_codeAny_call_defAt (fd := ksFn "__init__" "BadBook.__init__" iA iB iS .none .none doc pm an (.ref cda) ct cc) (body := iB) (binds := [("self", .ref x), ("part", .int i ti), ("number", .int j tj)])
    hroom (X _ _ ho) rfl nl (codeRec_of X hcd) rfl (BindsTo.of_eq (by first | rfl | with_unfolding_all rfl)) iS_cell (fun y hy => ?_) (fun h₀ hns k => ?_)
  · have e : y = (PySem.Str.ofString "self", Value.ref x) ∨ y = (PySem.Str.ofString "part", Value.int i ti) ∨ y = (PySem.Str.ofString "number", Value.int j tj) := by simpa using hy
    rcases e with rfl | rfl | rfl
    · exact (by decide +kernel : iS.names.lookup (PySem.Str.ofString "self") = some .local)
    · exact (by decide +kernel : iS.names.lookup (PySem.Str.ofString "part") = some .local)
    · exact (by decide +kernel : iS.names.lookup (PySem.Str.ofString "number") = some .local)
  generalize hL : (Shared.heap ⟨hp, g, dr, tk0, os⟩).objs.size = L at hns ⊢
  have henv : callEnv (ksFn "__init__" "BadBook.__init__" iA iB iS .none .none doc pm an (.ref cda) ct cc) L fI = ksEnv "BadBook.__init__" iS L fI (.ref cda) cc := rfl
  rw [henv]
  have X0 : K.In h₀ := X.keeps k
  have hx0 := k _ _ hx
  have kb0 : ∀ b o, base.get? b = some o → h₀.get? b = some o := fun b o e => k b o (kb b o e)
  obtain ⟨oC, hC0, hC1⟩ : ∃ oC, h₀.get? C = some oC ∧ oC.data = .cls { name := nm, bases := bs, mro := .ref C :: bm, ns := N, qualname := q, hasDict := true, slotNames := sn, subclasses := sub, abstract := ab, collection := col, hasDel := false } := ⟨_, X0 _ _ hC, rfl⟩
  have I0 : InstAt h₀ x (excO C t0) C none := ⟨hx0, rfl, rfl, trivial⟩
  obtain ⟨mb, hb1, hb2⟩ := B.blt
  have hxC : x ≠ C := fun z => by
    rw [z, hC0] at hx0
    cases hx0
    cases hC1
  have hsub : mroIn K C (.ref C) = some true := by
    unfold mroIn
    rw [hcl]
    simp
  have nS : iS.names.lookup (PySem.Str.ofString "super") = some .globalImplicit := by decide +kernel
  have nC : iS.names.lookup (PySem.Str.ofString "__class__") = some .free := by decide +kernel
  have nx : iS.names.lookup (PySem.Str.ofString "self") = some .local := by decide +kernel
  have np0 : iS.names.lookup (PySem.Str.ofString "part") = some .local := by decide +kernel
  have np1 : iS.names.lookup (PySem.Str.ofString "number") = some .local := by decide +kernel
  have hLx : L ≠ x := by
    rw [← hL]
    exact Nat.ne_of_gt (Heap.lt_size hx)
  refine ks_wpAt_execs_cons (ks_wpAt_Expr_any (ks_wpAt_MethodCall (ks_wpAt_super_base nS nC (by decide +kernel) rfl (X0 _ _ ho) rfl rfl rfl (X0 _ _ hcode) rfl hvs hfile T.main ?_)))
  refine ks_loadName_global rfl nS (loadGlobal_builtin (B.glob.keeps kb0) T.sB (hb1.keeps kb0) ((hb2 _ (by decide +kernel)).trans (by decide +kernel)) ⟨rfl, ?_⟩)
  refine wpAny_loadName_free rfl nC rfl ⟨_, X0 _ _ hcell, rfl⟩ ?_
  refine wpAny_loadName_local rfl nx hns rfl ?_
  refine ks_wpAny_isType_cls hC0 hC1 ⟨rfl, ?_⟩
  refine ks_wpAny_call_super hC0 hC1 hx0 rfl (fun c e => by cases e) (looks_mroIn X0 hsub) (fun h1 e1 k1 => ?_)
  have X1 : K.In h1 := X0.keeps k1
  have hx1 := k1 _ _ hx0
  have I1 : InstAt h1 x (excO C t0) C none := ⟨hx1, rfl, rfl, trivial⟩
  have hf : alongIn K "__init__" (((Value.ref C :: bm).dropWhile (· != .ref C)).drop 1) = some (some (.builtin "ValueError.__init__")) := by
    have := T.sup
    unfold ks_superIn at this
    rw [hcl] at this
    exact this
  refine kxs_getMethod kxs_ValueError e1 (looks_opaque X1 T.any) (l₀ := .ref C :: bm) (fun A Q E s k q => wpAny_bind ((looks_clsIn X1 hcl) A _ E s k (wpAny_pure q))) rfl X1 hf (I1.type.andThen (looks_subIn X1 T.subV)) hxC (by decide +kernel) ?_
  have hu : (h1.push (kxs_mw "ValueError.__init__" x)).get? h1.objs.size = some (kxs_mw "ValueError.__init__" x) := Heap.get?_push_size _ rfl
  have k2' : ∀ b o, h₀.get? b = some o → (h1.push (kxs_mw "ValueError.__init__" x)).get? b = some o := fun b o e => Heap.get?_push_of_some _ (k1 b o e)
  generalize h1.push (kxs_mw "ValueError.__init__" x) = h2 at hu k2' ⊢
  generalize h1.objs.size = u at hu ⊢
  have X2 : K.In h2 := X0.keeps k2'
  have hx2 := k2' _ _ hx0
  have hns2 := hns.keeps k2'
  -- the text that is handed on
  show wpAny _ _ (callWith _ (.ref u) [] _ []) _ _ _
  refine kxs_callWith (i := "ValueError.__init__") (x := x) rfl (evalArgs_plain ?_)
  show wpAny _ _ (spliced ((false, eval eF (ksEnv "BadBook.__init__" iS L fI (.ref cda) cc)) :: [])) _ _ _
  obtain ⟨c1, c2, d2, c3, c4, d4, c0, eFe⟩ := eF_eq
  rw [eFe]
  have z0 : Str.empty.length = 0 := by decide +kernel
  have z1 : (PySem.Str.ofString "the book can't be: part ").length = 24 := by decide +kernel
  have z2 : (PySem.Str.ofString ", number ").length = 9 := by decide +kernel
  refine Calls.spliced_cons (wpAny_JoinedStr ?_)
  refine wpAny_Constant_str ⟨_, _, rfl, (by show ((Str.empty ++ PySem.Str.ofString "the book can't be: part ")).length ≤ sizeLine; simp only [slen, z0, z1, z2, sizeLine_eq]; omega), ?_⟩
  refine wpAny_FormattedValue_plain (ld hns2 rfl ?_ rfl np0)
  refine wpAny_formatField_int hi ⟨_, _, rfl, (by show (((Str.empty ++ PySem.Str.ofString "the book can't be: part ") ++ (toString i : Str))).length ≤ sizeLine; simp only [slen, z0, z1, z2, sizeLine_eq]; omega), ?_⟩
  refine wpAny_Constant_str ⟨_, _, rfl, (by show ((((Str.empty ++ PySem.Str.ofString "the book can't be: part ") ++ (toString i : Str)) ++ PySem.Str.ofString ", number ")).length ≤ sizeLine; simp only [slen, z0, z1, z2, sizeLine_eq]; omega), ?_⟩
  refine wpAny_FormattedValue_plain (ld hns2 rfl ?_ rfl np1)
  refine wpAny_formatField_int hj ⟨_, _, rfl, (by show (((((Str.empty ++ PySem.Str.ofString "the book can't be: part ") ++ (toString i : Str)) ++ PySem.Str.ofString ", number ") ++ (toString j : Str))).length ≤ sizeLine; simp only [slen, z0, z1, z2, sizeLine_eq]; omega), ?_⟩
  refine ⟨(by show (((((Str.empty ++ PySem.Str.ofString "the book can't be: part ") ++ (toString i : Str)) ++ PySem.Str.ofString ", number ") ++ (toString j : Str))).length ≤ sizeLine; simp only [slen, z0, z1, z2, sizeLine_eq]; omega), ?_⟩
  refine Calls.spliced_nil ⟨hu, ?_⟩
  refine wpAny_call (codeAny_of_tree ?_)
  show wpAny _ _ (callAny (.ref u) ⟨_, []⟩) _ _ _
  simp only [callAny]
  refine wpAny_bind (wpAny_load hu ?_)
  simp only [kxs_mw, show (Value.type "method-wrapper" == Value.type "method" || Value.type "method-wrapper" == Value.type "builtin_function_or_method" || Value.type "method-wrapper" == Value.type "method-wrapper") = true by decide, if_true]
  refine KFB.if_so (by decide) ?_
  refine wpAny_bind (check_bound_init F.excBase_ValueError.toExcCallFacts (X2 _ _ hC) hx2 rfl ?_)
  refine wpAny_bind (wpAny_pure (wpAny_pure ?_))
  refine ⟨plainId_quiet F.excBase_ValueError.init.plain _, codeAny_builtin F.excBase_ValueError.initEntry ?_⟩
  refine exc_init_tree (cls := .ref C) (t0 := t0) (dv := none) (c2 := .none) (c3 := .none) (b4 := .bool false) hx2 (by rw [sizeLine_eq]; show 1 ≤ 16777216; decide) fun h3 k3 e3 _ => ?_
  have k3' : ∀ b o, b ≠ x → h₀.get? b = some o → h3.get? b = some o := fun b o hb e => k3 b o hb (k2' b o e)
  have X3 : K.In h3 := fun b o e => k3' b o (fun z => by
    have := B.kin b o e
    rw [z, hnx] at this
    cases this) (X0 b o e)
  have hns3 : h3.Ns L (fun y => (([("self", Value.ref x), ("part", .int i ti), ("number", .int j tj)] : List (Str × Value)).reverse.lookup y)) := hns.at fun o e => k3' L o hLx e
  show wpAt _ _ _ (execs (_ :: _ :: []) _) _ _ _
  refine ks_wpAt_execs_cons (ks_wpAt_Assign_Attr (wpAt_of_wpAny (ld hns3 rfl (ld hns3 rfl ?_ rfl nx) rfl np0)))
  refine set_plain X3 (ox := excO C h2.objs.size) (od := none) ⟨e3, rfl, rfl, trivial⟩ T.sa ?_
  refine exc_osa X3 e3 hcl (show refsVE (.ref C :: bm) = true from hbm) rfl T.noP0 (fun h4 tk4 dx k4 dn dne hx4 hn4 => ?_)
  have X4 : K.In h4 := fun b o e => k4 b o (fun z => by
    have := B.kin b o e
    rw [z, hnx] at this
    cases this) (X3 b o e)
  have hns4 : h4.Ns L (fun y => (([("self", Value.ref x), ("part", .int i ti), ("number", .int j tj)] : List (Str × Value)).reverse.lookup y)) := hns3.at fun o e => k4 L o hLx e
  have hLd : L ≠ dx := Nat.ne_of_lt (Nat.lt_of_lt_of_le hns3.lt dn)
  have hw4 : Within (fun y => if y = "part" then some (Value.int i ti) else none) ["part"] := fun y hy => by
    by_cases c : y = "part"
    · rw [c]; exact List.mem_singleton.mpr rfl
    · exact absurd (if_neg c) hy
  obtain ⟨oD, _, _, hoD, _, _⟩ := hn4.count hw4
  show wpAt _ _ _ (execs (_ :: []) _) _ _ _
  refine ks_wpAt_execs_cons (ks_wpAt_Assign_Attr (wpAt_of_wpAny (ld hns4 rfl (ld hns4 rfl ?_ rfl nx) rfl np1)))
  refine set_plain X4 (ox := { cls := .ref C, dict := some dx, data := .fields #[.ref h2.objs.size, .none, .none, .none, .bool false, .none] }) (od := some oD) ⟨hx4, rfl, rfl, hoD⟩ T.sa ?_
  refine PySem.OEX.osa_old X4 hx4 hn4 hw4 (by decide) hcl (show refsVE (.ref C :: bm) = true from hbm) rfl T.noP1 (fun h5 tk5 k5 hn5 => ?_)
  show wpAt _ _ _ (execs [] _) _ _ _
  refine wpAt_of_wpAny (wpAny_execs_nil ?_)
  have big : hp.objs.size ≤ dx := by
    have h1 : L < h3.objs.size := hns3.lt
    have h2 : hp.objs.size = L := hL
    exact Nat.le_trans (Nat.le_of_eq h2) (Nat.le_trans (Nat.le_of_lt h1) dn)
  refine hq h5 _ dx ⟨fun b o hb e => k5 b o (fun z => ?_) (k4 b o hb (k3' b o hb (k b o e))), ⟨_, k5 x _ (Ne.symm dne) hx4⟩, big, dne, hn5⟩
  have : b < hp.objs.size := Heap.lt_size e
  rw [z] at this
  exact absurd big (Nat.not_le.mpr this)
end
end XBadBook
end PySem
namespace PySem
namespace XBadBook
open PySem.W PySem.Calls PyProof.Rows PySem.HandSPX
/-- a made BadBook -/
structure OwnMade (h h' : Heap) (e C d : Addr) (v0 v1 : Value) : Prop where
  keep : ∀ b o, h.get? b = some o → h'.get? b = some o
  new : h.objs.size ≤ e
  obj : ∃ oe vs, h'.get? e = some oe ∧ oe.cls = .ref C ∧ oe.dict = some d ∧ oe.data = .fields vs ∧ vs[1]? = some .none
  dbig : h.objs.size ≤ d
  dne : d ≠ e
  ns : h'.Ns1 d (fun y => if y = "number" then some v1 else if y = "part" then some v0 else none)
theorem one_size (v0 v1 : Value) : [v0, v1].length ≤ sizeLine := by
  rw [sizeLine_eq]
  exact (by decide : 2 ≤ 16777216)
section
variable {prog : Program} {w : World} {A : Around} {E : Value → Shared → Prop} {R : Result → Shared → Prop} {s : Shared} {K : Frag} {mg : Str → Option Value} {C fI : Addr} {base : Heap}
theorem ex_made (T : ExTxt prog K mg C fI) {i : Int} {ti : Tok} {j : Int} {tj : Tok} (B : L2.Mod K mg base) (kb : ∀ b o, base.get? b = some o → s.heap.get? b = some o) (hi : i.natAbs.log2 < 1920) (hi2 : (toString i : Str).length ≤ 1000) (hj : j.natAbs.log2 < 1920) (hj2 : (toString j : Str).length ≤ 1000) (hroom : A.depth + 1 < recursionLimit)
    (hq : ∀ h' tk e d, OwnMade s.heap h' e C d (.int i ti) (.int j tj) → R (.ok (.ret (.ref e))) { s with heap := h', toks := tk }) :
    codeAny (model prog w) A (.call (.ref C) ⟨[.int i ti, .int j tj], []⟩) R s := by
  obtain ⟨nm, q, N, bs, bm, sn, sub, ab, col, dd, k0, k1, k2, k3, k5, hC, hbm⟩ := T.cls
  have X : K.In s.heap := B.kin.keeps kb
  obtain ⟨hp, g, dr, tk, os⟩ := s
  have k : ∀ b o, hp.get? b = some o → ((hp.push (kdv_tup [.int i ti, .int j tj])).push (excO C hp.objs.size)).get? b = some o := fun b o e => Heap.get?_push_of_some _ (Heap.get?_push_of_some _ e)
  have hget : ((hp.push (kdv_tup [.int i ti, .int j tj])).push (excO C hp.objs.size)).get? (hp.objs.size + 1) = some (excO C hp.objs.size) := by heap_get
  have hnx : base.get? (hp.objs.size + 1) = none := by
    cases e : base.get? (hp.objs.size + 1) with
    | none => rfl
    | some o =>
      have z : hp.get? (hp.objs.size + 1) = some o := kb _ _ e
      exact absurd (Nat.lt_of_succ_lt (Heap.lt_size z)) (Nat.lt_irrefl _)
  refine call_own F.excBase_ValueError (fun X => refsVE_contains X bm hbm) (X _ _ hC) (looks_findIn X T.iC) (fun self => bind_fn X self T.tC) (one_size (.int i ti) (.int j tj)) ?_
  refine ex_init (s := ⟨(hp.push (kdv_tup [.int i ti, .int j tj])).push (excO C hp.objs.size), g, dr, tk, os⟩) T B (fun b o e => k b o (kb b o e)) hget hnx hi hi2 hj hj2 ?_ fun h' tk' dx ⟨k', ⟨t1, hx⟩, dn, dne, hns⟩ => ?_
  · show A.depth + 1 < recursionLimit
    exact hroom
  · have old : ∀ b o, hp.get? b = some o → h'.get? b = some o := fun b o e => k' b o (Nat.ne_of_lt (Nat.lt_succ_of_lt (Heap.lt_size e))) (k b o e)
    have z : hp.objs.size + 1 + 1 ≤ dx := by
      first
        | (simpa only [Heap.size_push] using dn)
        | exact dn
        | (have q := dn; rw [Heap.size_push, Heap.size_push] at q; exact q)
    exact ⟨rfl, hq h' tk' (hp.objs.size + 1) dx ⟨old, Nat.le_succ _, ⟨_, _, hx, rfl, rfl, rfl, rfl⟩, Nat.le_trans (Nat.le_trans (Nat.le_succ _) (Nat.le_succ _)) z, dne, hns⟩⟩
end
end XBadBook
end PySem
namespace Say
open PySem PySem.Spec PyProof.Rows L2
theorem rel_BadBook {i j : Int} {ti tj : Tok} (f : Str) : RelO (List.lookup f ([(("number" : Str), .int j), (("part" : Str), .int i)] : List (Str × V))) (if f = "number" then some (Value.int j tj) else if f = "part" then some (Value.int i ti) else none) := by
  refine relO_put (f := "number") (mA := fun f => if f = "part" then some (Value.int i ti) else none) (y := .int j) (u := .int j tj) (fs := [(("part" : Str), .int i)]) ⟨_, rfl⟩ (fun g => ?_) f
  exact relO_put (f := "part") (mA := fun _ => none) (y := .int i) (u := .int i ti) (fs := []) ⟨_, rfl⟩ (fun _ => True.intro) g
section
variable {X : Cx} {C fI : Addr}
/-- BadBook(e) -/
def tMkBadBook (C : Addr) (ta : TA) : L2.St → Hp → XK → Prop := fun σ H Q => ta σ H fun vs H1 => ∃ i j : Int, vs = [.int i, .int j] ∧ (-1 ≤ i ∧ i ≤ 100) ∧ (-1 ≤ j ∧ j ≤ 100) ∧ ∀ d, H1 d = none → Q (.ref C) (some d) (upd H1 d (.xd [(("number" : Str), .int j), (("part" : Str), .int i)]))
theorem small_BadBook {i : Int} (h : -1 ≤ i ∧ i ≤ 100) : i.natAbs.log2 < 1920 ∧ (toString i : Str).length ≤ 1000 := by
  have key : ∀ q : Fin 102, ((q.1 : Int) - 1).natAbs.log2 < 1920 ∧ (toString ((q.1 : Int) - 1) : Str).length ≤ 1000 := by decide +kernel
  have e : i = (((i + 1).toNat : Nat) : Int) - 1 := by omega
  rw [e]
  exact key ⟨(i + 1).toNat, by omega⟩
theorem pmk_BadBook {a b : Expr} {ta : TA} {p pos : Pos} {k : Nat} (T : PySem.XBadBook.ExTxt X.prog X.K X.mg C fI) (hr : Room k X.A) (ha : PA X [a, b] ta) (hg : Gl X "BadBook" := by rfl)
    (he : starEach (a :: [b]) X.env = (false, eval a X.env) :: starEach [b] X.env := by rfl) (hpl : (backTo pos (starEach [b] X.env)).any (·.1) = false := by rfl) :
    PMk X (.Call (.Name "BadBook" p) [a, b] [] pos) (tMkBadBook C ta) := by
  intro pins s σ H Q I h
  unfold tMkBadBook at h
  refine wpAny_Call_Name_kw (ld_glob I hg T.gC ?_)
  refine PySem.W.callWith_K (h₀ := X.base) I.ok.mod.kin T.kC (thn (ha.run pos pins s σ H _ I h) fun us s1 hh => ?_) he hpl
  obtain ⟨vs, H1, I1, r1, i, j, ev, ni, nj, q1⟩ := hh
  subst ev
  refine ⟨I1.kIn, ?_⟩
  obtain ⟨v', u', rfl, rv, ru⟩ := vals2 r1
  obtain ⟨ti, rfl⟩ := rv
  obtain ⟨tj, rfl⟩ := ru
  show wpAny _ _ (call (.ref C) [.int i ti, .int j tj]) _ _ _
  have b1 := I1.mod
  have b2 := I1.bk
  obtain ⟨hp, g, dr, tk, os⟩ := s1
  refine wpAny_call (PySem.XBadBook.ex_made T b1 b2 (small_BadBook ni).1 (small_BadBook ni).2 (small_BadBook nj).1 (small_BadBook nj).2 (by have := hr.dp; omega) fun h' tk' e d M => ?_)
  show MkP X pins σ Q (.ref e) ⟨h', g, dr, tk', os⟩
  obtain ⟨oe, fv, hoe, hc, hd, hdat, h1⟩ := M.obj
  have hns := M.ns
  obtain ⟨G', g1, g2⟩ := restrict h' fun b => decide (b ≠ e)
  have gk : ∀ b, b ≠ e → G'.get? b = h'.get? b := fun b hb => g1 b (decide_eq_true hb)
  have ge : G'.get? e = none := g2 e (by simp)
  have old : ∀ b o, hp.get? b = some o → G'.get? b = some o := fun b o q => (gk b (Nat.ne_of_lt (Nat.lt_of_lt_of_le (Heap.lt_size q) M.new))).trans (M.keep b o q)
  have ob : ObjOk X.prog X.w (upd H1 d (.xd [(("number" : Str), .int j), (("part" : Str), .int i)])) G' d (.xd [(("number" : Str), .int j), (("part" : Str), .int i)]) :=
    ⟨_, hns.at (fun o q => (gk d M.dne).trans q), fun f => rel_BadBook f⟩
  have J : Inv X pins σ (upd H1 d (.xd [(("number" : Str), .int j), (("part" : Str), .int i)])) ⟨G', g, dr, tk', os⟩ := I1.laid (t' := tk') old M.dbig ob
  refine ⟨e, oe, fv, ⟨G', g, dr, tk', os⟩, _, .ref C, some d, rfl, J, fun b o q => ?_, ge, hoe, ⟨hc, hd⟩, hdat, h1, ?_, rfl, I1.bare, raises_own T.exC T.tyC, q1 d (I1.hok.fresh M.dbig)⟩
  · by_cases hb : b = e
    · have q' : G'.get? b = some o := q
      rw [hb, ge] at q'; cases q'
    · exact (gk b hb).symm.trans q
  · rw [upd_ne (Ne.symm M.dne)]
    exact I1.hok.fresh M.new
/-- raise BadBook(e) -/
def tRaiseBadBook (C : Addr) (W : WX) (ta : TA) : TS := fun _ σ H => tMkBadBook C ta σ H fun cls d H' => W cls d σ H'
theorem ps_raiseBadBook {a b : Expr} {ta : TA} {W : WX} {p pos pos2 : Pos} {k : Nat} (hc : X.calm = true) (T : PySem.XBadBook.ExTxt X.prog X.K X.mg C fI) (hr : Room k X.A) (tk : Takes X W) (ha : PA X [a, b] ta) (hg : Gl X "BadBook" := by rfl)
    (he : starEach (a :: [b]) X.env = (false, eval a X.env) :: starEach [b] X.env := by rfl) (hpl : (backTo pos (starEach [b] X.env)).any (·.1) = false := by rfl) :
    PS X (.Raise (some (.Call (.Name "BadBook" p) [a, b] [] pos)) none pos2) (tRaiseBadBook C W ta) := ps_raise hc tk (pmk_BadBook T hr ha hg he hpl)
end
end Say
namespace Say
open PySem PySem.Spec PyProof.Rows L2
/-! ### any values held against what a book's parts are -/
def txV (v : V) (S : List Nat) (lo hi : Nat) : Bool := match v with
  | .str z => isText z.cps.toList S lo hi
  | _ => false
def riV (v : V) : Bool := match v with
  | .str z => rises z.cps.toList
  | _ => false
def besV (L : List Nat) (v : V) : Bool := txV v (35 :: L) 0 (L.length + 1) && riV v
def rulV (L : List Nat) (a o e s : V) : Bool := besV L a && (txV o L 1 2 && (besV L e && txV s capsL 0 3))
def excV (L : List Nat) (a s : V) : Bool := txV a L 1 8 && txV s capsL 0 36
/-- v as a rule: b tells whether it is one -/
def RulR (K : PySem.W.Frag) (H : Hp) (L : List Nat) (v : V) (b : Bool) : Prop := (NoTup K H v ∧ b = false) ∨ (∃ t xs, v = .ref t ∧ SqT K H t xs ∧ xs.length ≠ 4 ∧ b = false) ∨
  ∃ t a o e s, v = .ref t ∧ SqT K H t [a, o, e, s] ∧ VOk K H a ∧ VOk K H o ∧ VOk K H e ∧ VOk K H s ∧ b = rulV L a o e s
/-- v as an exception: its word, if it is one -/
def ExcR (K : PySem.W.Frag) (H : Hp) (L : List Nat) (v : V) (w : Option (List Nat)) : Prop := (NoTup K H v ∧ w = none) ∨ (∃ t xs, v = .ref t ∧ SqT K H t xs ∧ xs.length ≠ 2 ∧ w = none) ∨
  ∃ t a s, v = .ref t ∧ SqT K H t [a, s] ∧ VOk K H a ∧ VOk K H s ∧ ((excV L a s = false ∧ w = none) ∨ ∃ z, a = .str (T z) ∧ excV L a s = true ∧ w = some z)
theorem RulR.same {K : PySem.W.Frag} {H H' : Hp} {L : List Nat} {v : V} {b : Bool} (h : RulR K H L v b) (s : Same H H') : RulR K H' L v b := by
  rcases h with ⟨h, e⟩ | ⟨t, xs, h1, h2, h3, e⟩ | ⟨t, a, o, e, z, h1, h2, h3, h4, h5, h6, h7⟩
  · exact .inl ⟨h.same s, e⟩
  · exact .inr (.inl ⟨t, xs, h1, seqT_same s h2, h3, e⟩)
  · exact .inr (.inr ⟨t, a, o, e, z, h1, seqT_same s h2, h3.same s, h4.same s, h5.same s, h6.same s, h7⟩)
theorem ExcR.same {K : PySem.W.Frag} {H H' : Hp} {L : List Nat} {v : V} {b : Option (List Nat)} (h : ExcR K H L v b) (s : Same H H') : ExcR K H' L v b := by
  rcases h with ⟨h, e⟩ | ⟨t, xs, h1, h2, h3, e⟩ | ⟨t, a, z, h1, h2, h3, h4, h5⟩
  · exact .inl ⟨h.same s, e⟩
  · exact .inr (.inl ⟨t, xs, h1, seqT_same s h2, h3, e⟩)
  · exact .inr (.inr ⟨t, a, z, h1, seqT_same s h2, h3.same s, h4.same s, h5⟩)
/-- the first rule that can't be -/
def badR (bs : List Bool) (n : Nat) : Prop := n < bs.length ∧ (n = 12 ∨ bs[n]? = some false)
/-- the first exception that can't be -/
def lastW (ws : List (Option (List Nat))) : Nat → List Nat
  | 0 => []
  | n + 1 => (ws.getD n none).getD []
def badE (ws : List (Option (List Nat))) (n : Nat) : Prop := n < ws.length ∧ (n = 8 ∨ ws[n]? = some none ∨ ∃ w, ws[n]? = some (some w) ∧ ¬ lastW ws n < w)
/-- refused with a part and a number -/
def refB (CB : Addr) (H : Hp) (E : XK) (p n : Int) : Prop := ∀ d H', Same H H' → H d = none → H' d = some (.xd [(("number" : Str), .int n), (("part" : Str), .int p)]) → E (.ref CB) (some d) H'
theorem FnOk.orX {P : Program} {w : World} {K : PySem.W.Frag} {mg : Str → Option Value} {base : Heap} {CX : CXT} {k : Nat} {f : Addr} {fd : FuncData} {ps : List Str} {s1 s2 : Sp} (a : FnOk P w K mg base CX k f fd ps s1) (b : FnOk P w K mg base CX k f fd ps s2) :
    FnOk P w K mg base CX k f fd ps (fun vs H Q E => s1 vs H Q E ∨ s2 vs H Q E) :=
  ⟨fun vs H Q E h => h.elim (a.len vs H Q E) (b.len vs H Q E), fun A outer s H args us vs Q E hr e hb hv h => h.elim (a.run A outer s H args us vs Q E hr e hb hv) (b.run A outer s H args us vs Q E hr e hb hv)⟩
section
variable {P : Program} {w : World} {K : PySem.W.Frag} {mg : Str → Option Value} {base : Heap}
def spTxV (K : PySem.W.Frag) : Sp := fun vs H Q _ => ∃ (v : V) (S : List Nat) (lo hi : Nat), vs = [v, .str (T S), .int lo, .int hi] ∧ VOk K H v ∧ ∀ (H' : Hp), Same H H' → Q (.bl (txV v S lo hi)) H'
theorem ok_txV {f : Addr} {fd : FuncData} (F : Fun K "is_text" "is_text" sIsText f fd) (B : Bn mg) : FnOk P w K mg base CX0 1 f fd ["text", "signs", "least", "most"] (spTxV K) := by
  have G := ok_isText (P := P) (w := w) (base := base) F B
  have G2 : FnOk P w K mg base CX0 1 f fd ["text", "signs", "least", "most"] (fun vs H Q _ => ∃ (v : V) (S : List Nat) (lo hi : Nat), vs = [v, .str (T S), .int lo, .int hi] ∧ NoStr K H v ∧ Q (.bl false) H) := by
    refine F.ok scIsText (fun vs H Q E h => ?_) (fun cdv A outer s H vs Q E hr h => ?_)
    · obtain ⟨v, S, lo, hi, rfl, _⟩ := h
      rfl
    · obtain ⟨v, S, lo, hi, rfl, hz, q⟩ := h
      refine ⟨_, pss_cons (ps_if (PW.pt (pw_or (pt_not (pt_val (pe_callB call_isi (by rfl) B.isi (by decide +kernel) (pa_cons (pv 0) (pa_cons (pe_bltn (v := .ty "str") rfl B.str (by decide +kernel) rfl) pa_nil)))))
            (pw_or1 (pt_not (pt_chain op_le op_le (pv 2) (pe_callB call_len_str (by rfl) B.len PySem.boot_len (pa_cons (pv 0) pa_nil)) (pv 3)))))) (pss_one (ps_ret pe_bl)) pss_nil)
        (pss_one ps_never), ?_⟩
      obtain ⟨t, h1, h2⟩ := hz.ty
      exact ⟨_, rfl, _, _, .type t, _, false, rfl, ClsV.ty _, h1, kit_ty h2, false, rfl, iteT q⟩
  refine (FnOk.orX G G2).imp ?_
  rintro vs H Q E ⟨v, S, lo, hi, rfl, hv, q⟩
  rcases hv with ⟨z, rfl, hz⟩ | hv
  · exact .inl ⟨z, S, lo, hi, rfl, hz, q⟩
  · refine .inr ⟨v, S, lo, hi, rfl, hv, ?_⟩
    have := q H (Same.refl H)
    rcases hv with rfl | ⟨i, rfl⟩ | ⟨a, xs, rfl, h⟩ | ⟨a, xs, rfl, h⟩ <;> exact this
def spBesV (K : PySem.W.Frag) : Sp := fun vs H Q _ => ∃ (L : List Nat) (v : V), vs = [.str (T L), v] ∧ L.length ≤ 50 ∧ VOk K H v ∧ ∀ (H' : Hp), Same H H' → Q (.bl (besV L v)) H'
theorem ok_besV {f : Addr} {fd : FuncData} (F : Fun K "is_beside" "is_beside" sBeside f fd) (B : Bn mg) (C : Cn mg) (DT : Df P w K mg base "is_text" psIsText 1 (spTxV K)) (DR : Df P w K mg base "is_rising" ["text"] 1 spRise) :
    FnOk P w K mg base CX0 2 f fd ["letters", "signs"] (spBesV K) := by
  obtain ⟨fT, fdT, GT, kT, bT, mT⟩ := DT
  obtain ⟨fR, fdR, GR, kR, bR, mR⟩ := DR
  obtain ⟨tE, mE⟩ := C.edge
  refine F.ok scBeside (fun vs H Q E h => ?_) (fun cdv A outer s H vs Q E hr h => ?_)
  · obtain ⟨L, v, rfl, _⟩ := h
    rfl
  · obtain ⟨L, v, rfl, hL, hv, q⟩ := h
    refine ⟨_, pss_one (ps_ret (pe_and (pe_call GT hr (by rfl) mT kT bT .nil pass0 (pa_cons (pv 1) (pa_cons (pe_op op_add_str (pe_glob (v := .str "#") rfl mE ⟨_, rfl⟩) (pv 0)) (pa_cons pe_int (pa_cons (pe_op op_add (pe_callB call_len_str (by rfl) B.len PySem.boot_len (pa_cons (pv 0) pa_nil)) pe_int) pa_nil)))))
        (pe_one (pe_call GR hr (by rfl) mR kR bR .nil pass0 (pa_cons (pv 1) pa_nil))))), ?_⟩
    have hl : (T L).length ≤ sizeLine := by rw [T_len]; exact small (by omega)
    refine ⟨_, rfl, _, rfl, _, _, rfl, rfl, (by rw [len_hash, T_len]; exact small (by omega)), _, rfl, _, rfl, hl, _, _, rfl, rfl, v, 35 :: L, 0, L.length + 1, ?_, hv, fun H1 s1 => ?_⟩
    · rw [hash_app, T_len]
      rfl
    refine ⟨_, rfl, ite2 (fun c => ?_) (fun c => ?_)⟩
    · obtain ⟨z, rfl, hz⟩ : ∃ z : List Nat, v = .str (T z) ∧ z.length ≤ 100 := by
        rcases hv with h | h
        · exact h
        · rcases h with rfl | ⟨i, rfl⟩ | ⟨a, xs, rfl, h⟩ | ⟨a, xs, rfl, h⟩ <;> cases c
      refine ⟨_, rfl, z, rfl, hz, fun H2 s2 => ?_⟩
      have := q H2 (s1.trans s2)
      unfold besV at this
      rw [c, Bool.true_and] at this
      exact this
    · have := q H1 s1
      unfold besV at this
      rw [Bool.eq_false_iff.mpr c, Bool.false_and] at this
      exact this
def spIsRuV (K : PySem.W.Frag) : Sp := fun vs H Q _ => ∃ (L : List Nat) (v : V) (b : Bool), vs = [.str (T L), v] ∧ L.length ≤ 50 ∧ RulR K H L v b ∧ ∀ (H' : Hp), Same H H' → Q (.bl b) H'
theorem ok_isRuV {f : Addr} {fd : FuncData} (F : Fun K "is_rule" "is_rule" sIsRule f fd) (B : Bn mg) (C : Cn mg) (DT : Df P w K mg base "is_text" psIsText 1 (spTxV K)) (DB : Df P w K mg base "is_beside" ["letters", "signs"] 2 (spBesV K)) :
    FnOk P w K mg base CX0 3 f fd ["letters", "rule"] (spIsRuV K) := by
  obtain ⟨fT, fdT, GT, kT, bT, mT⟩ := DT
  obtain ⟨fB, fdB, GB, kB, bB, mB⟩ := DB
  obtain ⟨tC, mC⟩ := C.caps
  obtain ⟨tS, mS⟩ := C.lrs
  refine F.ok scIsRule (fun vs H Q E h => ?_) (fun cdv A outer s H vs Q E hr h => ?_)
  · obtain ⟨L, v, b, rfl, _⟩ := h
    rfl
  · obtain ⟨L, v, b, rfl, hL, hv, q⟩ := h
    have hr1 : Room 1 _ := hr.mono (by decide)
    refine ⟨_, pss_cons (ps_if (PW.pt (pw_or (pt_not (pt_val (pe_callB call_isi (by rfl) B.isi (by decide +kernel) (pa_cons (pv 1) (pa_cons (pe_bltn (v := .ty "tuple") rfl B.tup (by decide +kernel) rfl) pa_nil)))))
          (pw_or1 (pt_cmpR op_ne (pe_callB call_len (by rfl) B.len PySem.boot_len (pa_cons (pv 1) pa_nil)) pe_int (nomark _))))) (pss_one (ps_ret pe_bl)) pss_nil)
      (pss_cons (ps_asg (pv 1) (pg_tup (by rfl) (pgs_cons (pg_name (i := 2) scIsRule.nd rfl (.inl rfl)) (pgs_cons (pg_name (i := 3) scIsRule.nd rfl (.inl rfl)) (pgs_cons (pg_name (i := 4) scIsRule.nd rfl (.inl rfl)) (pgs_cons (pg_name (i := 5) scIsRule.nd rfl (.inl rfl)) pgs_nil))))))
      (pss_one (ps_ret (pe_and (pe_call GB hr (by rfl) mB kB bB .nil pass0 (pa_cons (pv 0) (pa_cons (pv 2) pa_nil)))
        (pe_and (pe_call GT hr1 (by rfl) mT kT bT .nil pass0 (pa_cons (pv 3) (pa_cons (pv 0) (pa_cons pe_int (pa_cons pe_int pa_nil)))))
        (pe_and (pe_call GB hr (by rfl) mB kB bB .nil pass0 (pa_cons (pv 0) (pa_cons (pv 4) pa_nil)))
        (pe_one (pe_call GT hr1 (by rfl) mT kT bT .nil pass0 (pa_cons (pv 5) (pa_cons (pe_glob (v := .str "ABCDEFGHIJKLMNOPQRSTUVWXYZ") rfl mC ⟨_, rfl⟩) (pa_cons pe_int (pa_cons (pe_glob (v := .int 3) rfl mS ⟨_, rfl⟩) pa_nil)))))))))))), ?_⟩
    rcases hv with ⟨hn, rfl⟩ | ⟨t, xs, rfl, ht, hl, rfl⟩ | ⟨t, a, o, e, z, rfl, ht, ha, ho, he, hz, rfl⟩
    · obtain ⟨t, h1, h2⟩ := hn.ty
      exact ⟨_, rfl, v, _, .type t, _, false, rfl, ClsV.ty _, h1, kit_ty h2, false, rfl, iteT (q H (Same.refl H))⟩
    · refine ⟨_, rfl, _, _, .type "tuple", _, true, rfl, ClsV.ty _, tyT ht, kit_ty (by decide +kernel), true, rfl, iteF ?_⟩
      refine ⟨_, rfl, _, _, rfl, .inr ⟨_, ht, rfl⟩, rfl, _, rfl, ?_⟩
      rw [show decide (V.int ((xs.length : Nat) : Int) = V.int 4) = false from decide_eq_false fun z => hl (by have := V.int.inj z; omega)]
      exact iteT (q H (Same.refl H))
    · refine ⟨_, rfl, _, _, .type "tuple", _, true, rfl, ClsV.ty _, tyT ht, kit_ty (by decide +kernel), true, rfl, iteF ?_⟩
      refine ⟨_, rfl, _, 4, rfl, .inr ⟨_, ht, rfl⟩, rfl, _, rfl, iteF ?_⟩
      refine ⟨_, rfl, t, _, rfl, ht, rfl, _, _, rfl, _, _, rfl, _, _, rfl, _, _, rfl, rfl, ?_⟩
      unfold rulV at q
      refine ⟨_, rfl, _, rfl, L, a, rfl, hL, ha, fun H1 s1 => ?_⟩
      refine ⟨_, rfl, ?_⟩
      cases c1 : besV L a with
      | false => rw [c1, Bool.false_and] at q; exact iteF (q H1 s1)
      | true =>
        rw [c1, Bool.true_and] at q
        refine iteT ?_
        refine ⟨_, rfl, _, rfl, o, L, 1, 2, rfl, ho.same s1, fun H2 s2 => ?_⟩
        refine ⟨_, rfl, ?_⟩
        cases c2 : txV o L 1 2 with
        | false => rw [c2, Bool.false_and] at q; exact iteF (q H2 (s1.trans s2))
        | true =>
          rw [c2, Bool.true_and] at q
          refine iteT ?_
          refine ⟨_, rfl, _, rfl, L, e, rfl, hL, he.same (s1.trans s2), fun H3 s3 => ?_⟩
          refine ⟨_, rfl, ?_⟩
          cases c3 : besV L e with
          | false => rw [c3, Bool.false_and] at q; exact iteF (q H3 ((s1.trans s2).trans s3))
          | true =>
            rw [c3, Bool.true_and] at q
            refine iteT ?_
            refine ⟨_, rfl, z, capsL, 0, 3, (by rw [caps_eq]; rfl), hz.same ((s1.trans s2).trans s3), fun H4 s4 => ?_⟩
            exact q H4 (((s1.trans s2).trans s3).trans s4)
def spExdV (K : PySem.W.Frag) : Sp := fun vs H Q _ => ∃ (L : List Nat) (v : V), vs = [.str (T L), v] ∧ VOk K H v ∧ ∀ (H' : Hp), Same H H' → Q (.bl (txV v L 1 8)) H'
theorem ok_exdV {f : Addr} {fd : FuncData} (F : Fun K "is_excepted" "is_excepted" sExcd f fd) (C : Cn mg) (DT : Df P w K mg base "is_text" psIsText 1 (spTxV K)) : FnOk P w K mg base CX0 2 f fd ["letters", "word"] (spExdV K) := by
  obtain ⟨fT, fdT, GT, kT, bT, mT⟩ := DT
  obtain ⟨tX, mX⟩ := C.lexc
  refine F.ok scExcd (fun vs H Q E h => ?_) (fun cdv A outer s H vs Q E hr h => ?_)
  · obtain ⟨L, z, rfl, _⟩ := h
    rfl
  · obtain ⟨L, z, rfl, hl, q⟩ := h
    refine ⟨_, pss_one (ps_ret (pe_call GT hr (by rfl) mT kT bT .nil pass0 (pa_cons (pv 1) (pa_cons (pv 0) (pa_cons pe_int (pa_cons (pe_glob (v := .int 8) rfl mX ⟨_, rfl⟩) pa_nil)))))), ?_⟩
    exact ⟨_, rfl, _, rfl, z, L, 1, 8, rfl, hl, q⟩
def spSoV (K : PySem.W.Frag) : Sp := fun vs H Q _ => ∃ (v : V), vs = [v] ∧ VOk K H v ∧ ∀ (H' : Hp), Same H H' → Q (.bl (txV v capsL 0 36)) H'
theorem ok_soV {f : Addr} {fd : FuncData} (F : Fun K "is_sounds" "is_sounds" sIsSo f fd) (C : Cn mg) (DT : Df P w K mg base "is_text" psIsText 1 (spTxV K)) : FnOk P w K mg base CX0 2 f fd ["sounds"] (spSoV K) := by
  obtain ⟨fT, fdT, GT, kT, bT, mT⟩ := DT
  obtain ⟨tC, mC⟩ := C.caps
  obtain ⟨tS, mS⟩ := C.lso
  refine F.ok scIsSo (fun vs H Q E h => ?_) (fun cdv A outer s H vs Q E hr h => ?_)
  · obtain ⟨z, rfl, _⟩ := h
    rfl
  · obtain ⟨z, rfl, hl, q⟩ := h
    refine ⟨_, pss_one (ps_ret (pe_call GT hr (by rfl) mT kT bT .nil pass0 (pa_cons (pv 0) (pa_cons (pe_glob (v := .str "ABCDEFGHIJKLMNOPQRSTUVWXYZ") rfl mC ⟨_, rfl⟩) (pa_cons pe_int (pa_cons (pe_glob (v := .int 36) rfl mS ⟨_, rfl⟩) pa_nil)))))), ?_⟩
    exact ⟨_, rfl, z, capsL, 0, 36, (by rw [caps_eq]; rfl), hl, q⟩
def spIsExV (K : PySem.W.Frag) : Sp := fun vs H Q _ => ∃ (L : List Nat) (v : V) (w : Option (List Nat)), vs = [.str (T L), v] ∧ ExcR K H L v w ∧ ∀ (H' : Hp), Same H H' → Q (.bl w.isSome) H'
theorem ok_isExV {f : Addr} {fd : FuncData} (F : Fun K "is_exception" "is_exception" sIsExc f fd) (B : Bn mg) (DX : Df P w K mg base "is_excepted" ["letters", "word"] 2 (spExdV K)) (DS : Df P w K mg base "is_sounds" ["sounds"] 2 (spSoV K)) :
    FnOk P w K mg base CX0 3 f fd ["letters", "pair"] (spIsExV K) := by
  obtain ⟨fX, fdX, GX, kX, bX, mX⟩ := DX
  obtain ⟨fS, fdS, GS, kS, bS, mS⟩ := DS
  refine F.ok scIsExc (fun vs H Q E h => ?_) (fun cdv A outer s H vs Q E hr h => ?_)
  · obtain ⟨L, v, w, rfl, _⟩ := h
    rfl
  · obtain ⟨L, v, w, rfl, hv, q⟩ := h
    refine ⟨_, pss_cons (ps_if (PW.pt (pw_or (pt_not (pt_val (pe_callB call_isi (by rfl) B.isi (by decide +kernel) (pa_cons (pv 1) (pa_cons (pe_bltn (v := .ty "tuple") rfl B.tup (by decide +kernel) rfl) pa_nil)))))
          (pw_or1 (pt_cmpR op_ne (pe_callB call_len (by rfl) B.len PySem.boot_len (pa_cons (pv 1) pa_nil)) pe_int (nomark _))))) (pss_one (ps_ret pe_bl)) pss_nil)
      (pss_cons (ps_asg (pv 1) (pg_tup (by rfl) (pgs_cons (pg_name (i := 2) scIsExc.nd rfl (.inl rfl)) (pgs_cons (pg_name (i := 3) scIsExc.nd rfl (.inl rfl)) pgs_nil))))
      (pss_one (ps_ret (pe_and (pe_call GX hr (by rfl) mX kX bX .nil pass0 (pa_cons (pv 0) (pa_cons (pv 2) pa_nil)))
        (pe_one (pe_call GS hr (by rfl) mS kS bS .nil pass0 (pa_cons (pv 3) pa_nil))))))), ?_⟩
    rcases hv with ⟨hn, rfl⟩ | ⟨t, xs, rfl, ht, hl, rfl⟩ | ⟨t, a, z, rfl, ht, ha, hz, hw⟩
    · obtain ⟨t, h1, h2⟩ := hn.ty
      exact ⟨_, rfl, v, _, .type t, _, false, rfl, ClsV.ty _, h1, kit_ty h2, false, rfl, iteT (q H (Same.refl H))⟩
    · refine ⟨_, rfl, _, _, .type "tuple", _, true, rfl, ClsV.ty _, tyT ht, kit_ty (by decide +kernel), true, rfl, iteF ?_⟩
      refine ⟨_, rfl, _, _, rfl, .inr ⟨_, ht, rfl⟩, rfl, _, rfl, ?_⟩
      rw [show decide (V.int ((xs.length : Nat) : Int) = V.int 2) = false from decide_eq_false fun z => hl (by have := V.int.inj z; omega)]
      exact iteT (q H (Same.refl H))
    · have hq : w.isSome = excV L a z := by
        rcases hw with ⟨h1, rfl⟩ | ⟨_, _, h1, rfl⟩ <;> rw [h1] <;> rfl
      rw [hq] at q
      unfold excV at q
      refine ⟨_, rfl, _, _, .type "tuple", _, true, rfl, ClsV.ty _, tyT ht, kit_ty (by decide +kernel), true, rfl, iteF ?_⟩
      refine ⟨_, rfl, _, 2, rfl, .inr ⟨_, ht, rfl⟩, rfl, _, rfl, iteF ?_⟩
      refine ⟨_, rfl, t, _, rfl, ht, rfl, _, _, rfl, _, _, rfl, rfl, ?_⟩
      refine ⟨_, rfl, _, rfl, L, a, rfl, ha, fun H1 s1 => ?_⟩
      refine ⟨_, rfl, ?_⟩
      cases c1 : txV a L 1 8 with
      | false => rw [c1, Bool.false_and] at q; exact iteF (q H1 s1)
      | true =>
        rw [c1, Bool.true_and] at q
        refine iteT ?_
        exact ⟨_, rfl, z, rfl, hz.same s1, fun H4 s4 => q H4 (s1.trans s4)⟩
end
end Say
namespace Say
open PySem PySem.Spec PyProof.Rows L2
theorem first_of {p : Nat → Prop} (h : ∃ n, p n) : ∃ n, p n ∧ ∀ m, m < n → ¬ p m := by
  obtain ⟨n, hn⟩ := h
  induction n using Nat.strongRecOn with
  | _ n ih =>
    by_cases c : ∃ m, m < n ∧ p m
    · obtain ⟨m, h1, h2⟩ := c
      exact ih m h1 h2
    · exact ⟨n, hn, fun m hm z => c ⟨m, hm, z⟩⟩
def letV (v : V) : Bool := txV v smallL 2 4 && riV v
/-- v as a tuple of rules: which are -/
def RsR (K : PySem.W.Frag) (H : Hp) (L : List Nat) (v : V) (o : Option (List Bool)) : Prop := (NoTup K H v ∧ o = none) ∨ ∃ t xs bs, v = .ref t ∧ SqT K H t xs ∧ xs.length ≤ 90 ∧ Paired (RulR K H L) xs bs ∧ o = some bs
def badRs (o : Option (List Bool)) (n : Nat) : Prop := match o with
  | none => n = 0
  | some bs => badR bs n
def EsR (K : PySem.W.Frag) (H : Hp) (L : List Nat) (v : V) (o : Option (List (Option (List Nat)))) : Prop := (NoTup K H v ∧ o = none) ∨ ∃ t xs ws, v = .ref t ∧ SqT K H t xs ∧ xs.length ≤ 90 ∧ Paired (ExcR K H L) xs ws ∧ o = some ws
def badEs (o : Option (List (Option (List Nat)))) (n : Nat) : Prop := match o with
  | none => n = 0
  | some ws => badE ws n
theorem RsR.same {K : PySem.W.Frag} {H H' : Hp} {L : List Nat} {v : V} {o : Option (List Bool)} (h : RsR K H L v o) (s : Same H H') : RsR K H' L v o := by
  rcases h with ⟨h, e⟩ | ⟨t, xs, bs, h1, h2, h3, h4, e⟩
  · exact .inl ⟨h.same s, e⟩
  · exact .inr ⟨t, xs, bs, h1, seqT_same s h2, h3, paired_mono (fun _ _ q => q.same s) h4, e⟩
theorem EsR.same {K : PySem.W.Frag} {H H' : Hp} {L : List Nat} {v : V} {o : Option (List (Option (List Nat)))} (h : EsR K H L v o) (s : Same H H') : EsR K H' L v o := by
  rcases h with ⟨h, e⟩ | ⟨t, xs, bs, h1, h2, h3, h4, e⟩
  · exact .inl ⟨h.same s, e⟩
  · exact .inr ⟨t, xs, bs, h1, seqT_same s h2, h3, paired_mono (fun _ _ q => q.same s) h4, e⟩
theorem refB.same {CB : Addr} {H H' : Hp} {E : XK} {p n : Int} (h : refB CB H E p n) (s : Same H H') : refB CB H' E p n := fun d H2 s2 hd hx => h d H2 (s.trans s2) (s.free hd) hx
section
variable {P : Program} {w : World} {K : PySem.W.Frag} {mg : Str → Option Value} {base : Heap} {CB fI : Addr}
def spChLV (K : PySem.W.Frag) (CB : Addr) : Sp := fun vs H Q E => ∃ (v : V), vs = [v] ∧ VOk K H v ∧ (letV v = true → ∀ (H' : Hp), Same H H' → Q .non H') ∧ (letV v = false → refB CB H E 0 0)
theorem ok_chLV {f : Addr} {fd : FuncData} (F : Fun K "check_letters" "check_letters" sChL f fd) (C : Cn mg) (cL : KI mg "LETTERS" 0) (O : PySem.XBadBook.ExTxt P K mg CB fI) (DT : Df P w K mg base "is_text" psIsText 1 (spTxV K)) (DR : Df P w K mg base "is_rising" ["text"] 1 spRise) :
    FnOk P w K mg base (L2.CX P w) 2 f fd ["letters"] (spChLV K CB) := by
  obtain ⟨fT, fdT, GT, kT, bT, mT⟩ := DT
  obtain ⟨fR, fdR, GR, kR, bR, mR⟩ := DR
  obtain ⟨tS, mS⟩ := C.small
  obtain ⟨tL, mL⟩ := cL
  refine F.okX scChL (fun vs H Q E h => ?_) (fun cdv A outer s H vs Q E hr h => ?_)
  · obtain ⟨L, rfl, _⟩ := h
    rfl
  · obtain ⟨v, rfl, hv, q1, q2⟩ := h
    refine ⟨_, pss_one (ps_if (PW.pt (pw_or (pt_not (pt_val (pe_call GT hr (by rfl) mT kT bT .nil pass0 (pa_cons (pv 0) (pa_cons (pe_glob (v := .str "abcdefghijklmnopqrstuvwxyz") rfl mS ⟨_, rfl⟩) (pa_cons pe_int (pa_cons pe_int pa_nil)))))))
        (pw_or1 (pt_not (pt_val (pe_call GR hr (by rfl) mR kR bR .nil pass0 (pa_cons (pv 0) pa_nil))))))) (pss_one (ps_raiseBadBook rfl O hr (takes_of rfl rfl rfl rfl) (by exact (pa_cons (pe_glob (v := .int 0) rfl mL ⟨_, rfl⟩) (pa_cons pe_int pa_nil))))) pss_nil), ?_⟩
    unfold letV at q1 q2
    refine ⟨_, rfl, v, smallL, 2, 4, (by rw [small_eq]; rfl), hv, fun H1 s1 => ?_⟩
    cases c1 : txV v smallL 2 4 with
    | false =>
      rw [c1] at q2
      refine ⟨false, rfl, iteT ?_⟩
      exact ⟨0, 0, rfl, ⟨by decide, by decide⟩, ⟨by decide, by decide⟩, fun d hd => q2 rfl d _ (s1.trans (same_new hd _)) (s1.free hd) upd_same⟩
    | true =>
      rw [c1, Bool.true_and] at q1 q2
      refine ⟨true, rfl, iteF ?_⟩
      obtain ⟨z, rfl, hz⟩ : ∃ z : List Nat, v = .str (T z) ∧ z.length ≤ 100 := by
        rcases hv with h | h
        · exact h
        · rcases h with rfl | ⟨i, rfl⟩ | ⟨a, xs, rfl, h⟩ | ⟨a, xs, rfl, h⟩ <;> cases c1
      refine ⟨_, rfl, z, rfl, hz, fun H2 s2 => ?_⟩
      have q1 : rises z = true → ∀ H', Same H H' → Q .non H' := q1
      have q2 : rises z = false → refB CB H E 0 0 := q2
      cases c2 : rises z with
      | true => exact ⟨true, rfl, iteF (q1 c2 H2 (s1.trans s2))⟩
      | false =>
        refine ⟨false, rfl, iteT ?_⟩
        exact ⟨0, 0, rfl, ⟨by decide, by decide⟩, ⟨by decide, by decide⟩, fun d hd => q2 c2 d _ ((s1.trans s2).trans (same_new hd _)) ((s1.trans s2).free hd) upd_same⟩
def spChRV (K : PySem.W.Frag) (CB : Addr) : Sp := fun vs H Q E => ∃ (L : List Nat) (v : V) (o : Option (List Bool)), vs = [.str (T L), v] ∧ L.length ≤ 50 ∧ RsR K H L v o ∧ ((∀ n, ¬ badRs o n) → ∀ (H' : Hp), Same H H' → Q .non H') ∧ (∀ n : Nat, badRs o n → (∀ m, m < n → ¬ badRs o m) → refB CB H E 1 n)
theorem ok_chRV {f : Addr} {fd : FuncData} (F : Fun K "check_rules" "check_rules" sChR f fd) (B : Bn mg) (C : Cn mg) (cR : KI mg "RULES" 1) (O : PySem.XBadBook.ExTxt P K mg CB fI) (DI : Df P w K mg base "is_rule" ["letters", "rule"] 3 (spIsRuV K)) :
    FnOk P w K mg base (L2.CX P w) 4 f fd ["letters", "rules"] (spChRV K CB) := by
  obtain ⟨fI, fdI, GI, kI, bI, mI⟩ := DI
  obtain ⟨tS, mS⟩ := C.mrul
  obtain ⟨tR, mR⟩ := cR
  refine F.okX scChR (fun vs H Q E h => ?_) (fun cdv A outer s H vs Q E hr h => ?_)
  · obtain ⟨L, v, o, rfl, _⟩ := h
    rfl
  · obtain ⟨L, v, o, rfl, hL, hv, q1, q2⟩ := h
    have px : PassesOwn (model P w) (A.deeper (envOfC "check_rules" (defScope sChR) s.heap.objs.size f cdv)) (envOfC "check_rules" (defScope sChR) s.heap.objs.size f cdv) (cxOf (L2.CX P w) P w K mg base ["letters", "rules", "number", "rule"] "check_rules" (defScope sChR) f cdv A outer s H E).xe := PassesOwn.leaving
    refine ⟨_, pss_cons (ps_if (pt_not (pt_val (pe_callB call_isi (by rfl) B.isi (by decide +kernel) (pa_cons (pv 1) (pa_cons (pe_bltn (v := .ty "tuple") rfl B.tup (by decide +kernel) rfl) pa_nil))))) (pss_one (ps_raiseBadBook rfl O hr (takes_of rfl rfl rfl rfl) (by exact (pa_cons (pe_glob (v := .int 1) rfl mR ⟨_, rfl⟩) (pa_cons pe_int pa_nil))))) pss_nil)
      (pss_one (ps_for px rfl (pi_enumT (by rfl) B.enu (pa_cons (pv 1) pa_nil)) (pg_tup (by rfl) (pgs_cons (pg_name (i := 2) scChR.nd rfl (.inl rfl)) (pgs_cons (pg_name (i := 3) scChR.nd rfl (.inl rfl)) pgs_nil)))
        (pss_one (ps_if (PW.pt (pw_or (pt_cmpR op_eq (pv 2) (pe_glob (v := .int 12) rfl mS ⟨_, rfl⟩) (nomark _)) (pw_or1 (pt_not (pt_val (pe_call GI hr (by rfl) mI kI bI .nil pass0 (pa_cons (pv 0) (pa_cons (pv 3) pa_nil)))))))) (pss_one (ps_raiseBadBook rfl O hr (takes_of rfl rfl rfl rfl) (by exact (pa_cons (pe_glob (v := .int 1) rfl mR ⟨_, rfl⟩) (pa_cons (pv 2) pa_nil))))) pss_nil)))), ?_⟩
    rcases hv with ⟨hn, rfl⟩ | ⟨t, xs, bs, rfl, ht, h90, hp, rfl⟩
    · obtain ⟨t, h1, h2⟩ := hn.ty
      refine ⟨_, rfl, v, _, .type t, _, false, rfl, ClsV.ty _, h1, kit_ty h2, false, rfl, iteT ?_⟩
      exact ⟨1, 0, rfl, ⟨by decide, by decide⟩, ⟨by decide, by decide⟩, fun d hd => q2 0 rfl (fun m hm => absurd hm (Nat.not_lt_zero m)) d _ (same_new hd _) hd upd_same⟩
    · have hl := paired_len hp
      refine ⟨_, rfl, _, _, .type "tuple", _, true, rfl, ClsV.ty _, tyT ht, kit_ty (by decide +kernel), true, rfl, iteF ?_⟩
      refine ⟨_, rfl, t, _, rfl, ht, for_it (walk_enumT (xs := xs)) (fun i σ H2 => Same H H2 ∧ (∃ v2 v3, σ = [some (.str (T L)), some (.ref t), v2, v3]) ∧ ∀ m, m < i → ¬ badR bs m) ⟨Same.refl H, ⟨_, _, rfl⟩, fun m hm => absurd hm (Nat.not_lt_zero m)⟩ (fun i σ H2 _ h => seqT_same h.1 ht) ?_ ?_⟩
      · rintro i x σ H2 H3 hi ⟨s2, ⟨v2, v3, rfl⟩, hb⟩ ⟨tt, x1, x2, rfl, htt, rfl, g1, g2⟩
        cases g1
        have g2 : xs[i]? = some x2 := g2
        obtain ⟨b, hbi, hv⟩ := paired_at hp g2
        have hib : i < bs.length := (List.getElem?_eq_some_iff.mp hbi).1
        have sm := same_new htt (.tup [.int (i : Nat), x2])
        refine ⟨tt, _, rfl, .inl (.inl upd_same), rfl, _, _, rfl, _, _, rfl, rfl, ?_⟩
        refine ⟨_, rfl, rfl, _, rfl, ?_⟩
        by_cases c : i = 12
        · rw [show decide (V.int ((i : Nat) : Int) = V.int 12) = true from decide_eq_true (by rw [c] <;> rfl)]
          refine iteT ?_
          exact ⟨_, rfl, 1, (i : Nat), rfl, ⟨by decide, by decide⟩, ⟨by omega, by omega⟩, fun d hd => q2 i ⟨hib, .inl c⟩ hb d _ ((s2.trans sm).trans (same_new hd _)) ((s2.trans sm).free hd) upd_same⟩
        · rw [show decide (V.int ((i : Nat) : Int) = V.int 12) = false from decide_eq_false fun z => c (by have := V.int.inj z; omega)]
          refine iteF ?_
          refine ⟨_, rfl, _, rfl, L, x2, b, rfl, hL, hv.same (s2.trans sm), fun H4 s4 => ?_⟩
          have s24 := (s2.trans sm).trans s4
          cases b with
          | true =>
            refine ⟨true, rfl, iteF ⟨s24, ⟨_, _, rfl⟩, fun m hm => ?_⟩⟩
            rcases Nat.lt_or_eq_of_le (Nat.le_of_lt_succ hm) with h | h
            · exact hb m h
            · rw [h]
              rintro ⟨_, z | z⟩
              · exact c z
              · rw [hbi] at z; cases z
          | false =>
            refine ⟨false, rfl, iteT ?_⟩
            exact ⟨_, rfl, 1, (i : Nat), rfl, ⟨by decide, by decide⟩, ⟨by omega, by omega⟩, fun d hd => q2 i ⟨hib, .inr hbi⟩ hb d _ (s24.trans (same_new hd _)) (s24.free hd) upd_same⟩
      · rintro σ H2 ⟨s2, _, hb⟩
        exact q1 (fun n hn => hb n (by have := hn.1; omega) hn) H2 s2
def spChEV (K : PySem.W.Frag) (CB : Addr) : Sp := fun vs H Q E => ∃ (L : List Nat) (v : V) (o : Option (List (Option (List Nat)))), vs = [.str (T L), v] ∧ EsR K H L v o ∧ ((∀ n, ¬ badEs o n) → ∀ (H' : Hp), Same H H' → Q .non H') ∧ (∀ n : Nat, badEs o n → (∀ m, m < n → ¬ badEs o m) → refB CB H E 2 n)
theorem ok_chEV {f : Addr} {fd : FuncData} (F : Fun K "check_exceptions" "check_exceptions" sChE f fd) (B : Bn mg) (cM : KI mg "MOST_EXCEPTIONS" 8) (cE : KI mg "EXCEPTIONS" 2) (O : PySem.XBadBook.ExTxt P K mg CB fI) (DI : Df P w K mg base "is_exception" ["letters", "pair"] 3 (spIsExV K)) :
    FnOk P w K mg base (L2.CX P w) 4 f fd ["letters", "exceptions"] (spChEV K CB) := by
  obtain ⟨fI, fdI, GI, kI, bI, mI⟩ := DI
  obtain ⟨tS, mS⟩ := cM
  obtain ⟨tR, mR⟩ := cE
  refine F.okX scChE (fun vs H Q E h => ?_) (fun cdv A outer s H vs Q E hr h => ?_)
  · obtain ⟨L, v, o, rfl, _⟩ := h
    rfl
  · obtain ⟨L, v, o, rfl, hv, q1, q2⟩ := h
    have px : PassesOwn (model P w) (A.deeper (envOfC "check_exceptions" (defScope sChE) s.heap.objs.size f cdv)) (envOfC "check_exceptions" (defScope sChE) s.heap.objs.size f cdv) (cxOf (L2.CX P w) P w K mg base ["letters", "exceptions", "last", "number", "pair"] "check_exceptions" (defScope sChE) f cdv A outer s H E).xe := PassesOwn.leaving
    refine ⟨_, pss_cons (ps_if (pt_not (pt_val (pe_callB call_isi (by rfl) B.isi (by decide +kernel) (pa_cons (pv 1) (pa_cons (pe_bltn (v := .ty "tuple") rfl B.tup (by decide +kernel) rfl) pa_nil))))) (pss_one (ps_raiseBadBook rfl O hr (takes_of rfl rfl rfl rfl) (by exact (pa_cons (pe_glob (v := .int 2) rfl mR ⟨_, rfl⟩) (pa_cons pe_int pa_nil))))) pss_nil)
      (pss_cons (ps_set (i := 2) scChE.nd rfl (.inl rfl) pe_str)
      (pss_one (ps_for px rfl (pi_enumT (by rfl) B.enu (pa_cons (pv 1) pa_nil)) (pg_tup (by rfl) (pgs_cons (pg_name (i := 3) scChE.nd rfl (.inl rfl)) (pgs_cons (pg_name (i := 4) scChE.nd rfl (.inl rfl)) pgs_nil)))
        (pss_cons (ps_if (PW.pt (pw_or (pt_cmpR op_eq (pv 3) (pe_glob (v := .int 8) rfl mS ⟨_, rfl⟩) (nomark _)) (pw_or (pt_not (pt_val (pe_call GI hr (by rfl) mI kI bI .nil pass0 (pa_cons (pv 0) (pa_cons (pv 4) pa_nil)))))
            (pw_or1 (pt_cmpR op_le_str (pe_ix ix_tup (pv 4) pe_int (fun _ _ => rfl)) (pv 2) (nomark _)))))) (pss_one (ps_raiseBadBook rfl O hr (takes_of rfl rfl rfl rfl) (by exact (pa_cons (pe_glob (v := .int 2) rfl mR ⟨_, rfl⟩) (pa_cons (pv 3) pa_nil))))) pss_nil)
        (pss_one (ps_set (i := 2) scChE.nd rfl (.inl rfl) (pe_ix ix_tup (pv 4) pe_int (fun _ _ => rfl)))))))), ?_⟩
    rcases hv with ⟨hn, rfl⟩ | ⟨t, xs, ws, rfl, ht, h90, hp, rfl⟩
    · obtain ⟨t, h1, h2⟩ := hn.ty
      refine ⟨_, rfl, v, _, .type t, _, false, rfl, ClsV.ty _, h1, kit_ty h2, false, rfl, iteT ?_⟩
      exact ⟨2, 0, rfl, ⟨by decide, by decide⟩, ⟨by decide, by decide⟩, fun d hd => q2 0 rfl (fun m hm => absurd hm (Nat.not_lt_zero m)) d _ (same_new hd _) hd upd_same⟩
    · have hl := paired_len hp
      refine ⟨_, rfl, _, _, .type "tuple", _, true, rfl, ClsV.ty _, tyT ht, kit_ty (by decide +kernel), true, rfl, iteF ?_⟩
      refine ⟨_, rfl, t, _, rfl, ht, for_it (walk_enumT (xs := xs)) (fun i σ H2 => Same H H2 ∧ (∃ v3 v4, σ = [some (.str (T L)), some (.ref t), some (.str (T (lastW ws i))), v3, v4]) ∧ ∀ m, m < i → ¬ badE ws m) ⟨Same.refl H, ⟨_, _, by rw [show lastW ws 0 = [] from rfl, ← show Str.ofString "" = T [] from nil_eq]; rfl⟩, fun m hm => absurd hm (Nat.not_lt_zero m)⟩ (fun i σ H2 _ h => seqT_same h.1 ht) ?_ ?_⟩
      · rintro i x σ H2 H3 hi ⟨s2, ⟨v3, v4, rfl⟩, hb⟩ ⟨tt, x1, x2, rfl, htt, rfl, g1, g2⟩
        cases g1
        have g2 : xs[i]? = some x2 := g2
        obtain ⟨b, hbi, hv⟩ := paired_at hp g2
        have hib : i < ws.length := (List.getElem?_eq_some_iff.mp hbi).1
        have sm := same_new htt (.tup [.int (i : Nat), x2])
        have ref : badE ws i → ∀ (H4 : Hp), Same H H4 → ∃ p n : Int, [V.int 2, V.int (i : Nat)] = [V.int p, V.int n] ∧ (-1 ≤ p ∧ p ≤ 100) ∧ (-1 ≤ n ∧ n ≤ 100) ∧ ∀ d, H4 d = none → E (.ref CB) (some d) (upd H4 d (.xd [(("number" : Str), .int n), (("part" : Str), .int p)])) := fun bd H4 s4 =>
          ⟨2, (i : Nat), rfl, ⟨by decide, by decide⟩, ⟨by omega, by omega⟩, fun d hd => q2 i bd hb d _ (s4.trans (same_new hd _)) (s4.free hd) upd_same⟩
        refine ⟨tt, _, rfl, .inl (.inl upd_same), rfl, _, _, rfl, _, _, rfl, rfl, ?_⟩
        refine ⟨_, rfl, rfl, _, rfl, ?_⟩
        by_cases c : i = 8
        · rw [show decide (V.int ((i : Nat) : Int) = V.int 8) = true from decide_eq_true (by rw [c] <;> rfl)]
          refine iteT ?_
          exact ⟨_, rfl, ref ⟨hib, .inl c⟩ _ (s2.trans sm)⟩
        · rw [show decide (V.int ((i : Nat) : Int) = V.int 8) = false from decide_eq_false fun z => c (by have := V.int.inj z; omega)]
          refine iteF ?_
          refine ⟨_, rfl, _, rfl, L, x2, b, rfl, hv.same (s2.trans sm), fun H4 s4 => ?_⟩
          have s24 := (s2.trans sm).trans s4
          cases b with
          | none =>
            refine ⟨false, rfl, iteT ?_⟩
            exact ⟨_, rfl, ref ⟨hib, .inr (.inl hbi)⟩ _ s24⟩
          | some wd =>
            refine ⟨true, rfl, iteF ?_⟩
            rcases hv.same s24 with ⟨_, e⟩ | ⟨_, _, _, _, _, e⟩ | ⟨u, a, z, rfl, hu, _, _, ⟨_, e⟩ | ⟨wd', rfl, _, e⟩⟩
            · cases e
            · cases e
            · cases e
            have e := Option.some.inj e
            subst e
            refine ⟨_, rfl, u, _, 0, .str (T wd), rfl, rfl, hu, atI_nat (j := 0) rfl, _, rfl, _, _, rfl, rfl, _, rfl, ?_⟩
            by_cases lt : lastW ws i < wd
            · rw [show decide ((T (lastW ws i)).cps.toList < (T wd).cps.toList) = true from decide_eq_true lt]
              refine iteF ?_
              refine ⟨_, rfl, u, _, 0, .str (T wd), rfl, rfl, hu, atI_nat (j := 0) rfl, ?_⟩
              refine ⟨s24, ⟨_, _, by rw [show lastW ws (i + 1) = wd by show (ws.getD i none).getD [] = wd; rw [List.getD_eq_getElem?_getD, hbi] <;> rfl]; rfl⟩, fun m hm => ?_⟩
              rcases Nat.lt_or_eq_of_le (Nat.le_of_lt_succ hm) with h | h
              · exact hb m h
              · rw [h]
                rintro ⟨_, z | z | ⟨w', z, n⟩⟩
                · exact c z
                · rw [hbi] at z; cases z
                · rw [hbi] at z
                  have := Option.some.inj (Option.some.inj z)
                  rw [← this] at n
                  exact n lt
            · rw [show decide ((T (lastW ws i)).cps.toList < (T wd).cps.toList) = false from decide_eq_false lt]
              refine iteT ?_
              exact ⟨_, rfl, ref ⟨hib, .inr (.inr ⟨wd, hbi, lt⟩)⟩ _ s24⟩
      · rintro σ H2 ⟨s2, _, hb⟩
        exact q1 (fun n hn => hb n (by have := hn.1; omega) hn) H2 s2
/-- any value as a book -/
def spChV (K : PySem.W.Frag) (CB : Addr) : Sp := fun vs H Q E => ∃ (v : V), vs = [v] ∧
  ((NoTup K H v ∧ refB CB H E (-1) 0) ∨ (∃ t xs, v = .ref t ∧ SqT K H t xs ∧ xs.length ≠ 3 ∧ refB CB H E (-1) 0) ∨
   ∃ t l r x, v = .ref t ∧ SqT K H t [l, r, x] ∧ VOk K H l ∧ (letV l = false → refB CB H E 0 0) ∧
     (∀ L, l = .str (T L) → letV l = true → ∃ o, RsR K H L r o ∧ (∀ n : Nat, badRs o n → (∀ m, m < n → ¬ badRs o m) → refB CB H E 1 n) ∧
       ((∀ n, ¬ badRs o n) → ∃ oe, EsR K H L x oe ∧ (∀ n : Nat, badEs oe n → (∀ m, m < n → ¬ badEs oe m) → refB CB H E 2 n) ∧ ((∀ n, ¬ badEs oe n) → ∀ H', Same H H' → Q v H'))))
theorem ok_chV {f : Addr} {fd : FuncData} (F : Fun K "checked_book" "checked_book" sCh f fd) (B : Bn mg) (cN : KI mg "NO_BOOK" (-1)) (O : PySem.XBadBook.ExTxt P K mg CB fI)
    {fL fR fE : Addr} {fdL fdR fdE : FuncData} (GL : FnOk P w K mg base (L2.CX P w) 2 fL fdL ["letters"] (spChLV K CB)) (kL : PySem.W.keepIn K (.ref fL) = true) (bL : Binds K fdL ["letters"] []) (mL : mg "check_letters" = some (.ref fL))
    (GR : FnOk P w K mg base (L2.CX P w) 4 fR fdR ["letters", "rules"] (spChRV K CB)) (kR : PySem.W.keepIn K (.ref fR) = true) (bR : Binds K fdR ["letters", "rules"] []) (mR : mg "check_rules" = some (.ref fR))
    (GE : FnOk P w K mg base (L2.CX P w) 4 fE fdE ["letters", "exceptions"] (spChEV K CB)) (kE : PySem.W.keepIn K (.ref fE) = true) (bE : Binds K fdE ["letters", "exceptions"] []) (mE : mg "check_exceptions" = some (.ref fE)) :
    FnOk P w K mg base (L2.CX P w) 5 f fd ["book"] (spChV K CB) := by
  obtain ⟨tN, mN⟩ := cN
  refine F.okX scCh (fun vs H Q E h => ?_) (fun cdv A outer s H vs Q E hr h => ?_)
  · obtain ⟨v, rfl, _⟩ := h
    rfl
  · obtain ⟨v, rfl, h⟩ := h
    have tk : Takes _ (fun cls d _ H => E cls d H) := takes_of (X := cxOf (L2.CX P w) P w K mg base ["book", "letters", "rules", "exceptions"] "checked_book" (defScope sCh) f cdv A outer s H E) rfl rfl rfl rfl
    refine ⟨_, pss_cons (ps_if (PW.pt (pw_or (pt_not (pt_val (pe_callB call_isi (by rfl) B.isi (by decide +kernel) (pa_cons (pv 0) (pa_cons (pe_bltn (v := .ty "tuple") rfl B.tup (by decide +kernel) rfl) pa_nil)))))
          (pw_or1 (pt_cmpR op_ne (pe_callB call_len (by rfl) B.len PySem.boot_len (pa_cons (pv 0) pa_nil)) pe_int (nomark _))))) (pss_one (ps_raiseBadBook rfl O hr (takes_of rfl rfl rfl rfl) (by exact (pa_cons (pe_glob (v := .int (-1)) rfl mN ⟨_, rfl⟩) (pa_cons pe_int pa_nil))))) pss_nil)
      (pss_cons (ps_asg (pv 0) (pg_tup (by rfl) (pgs_cons (pg_name (i := 1) scCh.nd rfl (.inl rfl)) (pgs_cons (pg_name (i := 2) scCh.nd rfl (.inl rfl)) (pgs_cons (pg_name (i := 3) scCh.nd rfl (.inl rfl)) pgs_nil)))))
      (pss_cons (ps_expr (pe_callS GL (hr.mono (by decide)) (by rfl) mL kL bL (fun σ => passAt tk σ) (by exact (pa_cons (pv 1) pa_nil))))
      (pss_cons (ps_expr (pe_callS GR hr (by rfl) mR kR bR (fun σ => passAt tk σ) (by exact (pa_cons (pv 1) (pa_cons (pv 2) pa_nil)))))
      (pss_cons (ps_expr (pe_callS GE hr (by rfl) mE kE bE (fun σ => passAt tk σ) (by exact (pa_cons (pv 1) (pa_cons (pv 3) pa_nil)))))
      (pss_one (ps_ret (pv 0))))))), ?_⟩
    have ref : refB CB H E (-1) 0 → ∃ p n : Int, [V.int (-1), V.int 0] = [V.int p, V.int n] ∧ (-1 ≤ p ∧ p ≤ 100) ∧ (-1 ≤ n ∧ n ≤ 100) ∧ ∀ d, H d = none → E (.ref CB) (some d) (upd H d (.xd [(("number" : Str), .int n), (("part" : Str), .int p)])) := fun q =>
      ⟨-1, 0, rfl, ⟨by decide, by decide⟩, ⟨by decide, by decide⟩, fun d hd => q d _ (same_new hd _) hd upd_same⟩
    rcases h with ⟨hn, q⟩ | ⟨t, xs, rfl, ht, hl, q⟩ | ⟨t, l, r, x, rfl, ht, hv, ql, q⟩
    · obtain ⟨t, h1, h2⟩ := hn.ty
      exact ⟨_, rfl, v, _, .type t, _, false, rfl, ClsV.ty _, h1, kit_ty h2, false, rfl, iteT (ref q)⟩
    · refine ⟨_, rfl, _, _, .type "tuple", _, true, rfl, ClsV.ty _, tyT ht, kit_ty (by decide +kernel), true, rfl, iteF ?_⟩
      refine ⟨_, rfl, _, _, rfl, .inr ⟨_, ht, rfl⟩, rfl, _, rfl, ?_⟩
      rw [show decide (V.int ((xs.length : Nat) : Int) = V.int 3) = false from decide_eq_false fun z => hl (by have := V.int.inj z; omega)]
      exact iteT (ref q)
    · refine ⟨_, rfl, _, _, .type "tuple", _, true, rfl, ClsV.ty _, tyT ht, kit_ty (by decide +kernel), true, rfl, iteF ?_⟩
      refine ⟨_, rfl, _, 3, rfl, .inr ⟨_, ht, rfl⟩, rfl, _, rfl, iteF ?_⟩
      refine ⟨_, rfl, t, _, rfl, ht, rfl, _, _, rfl, _, _, rfl, _, _, rfl, rfl, ?_⟩
      refine ⟨_, rfl, l, rfl, hv, fun hl H1 s1 => ?_, ql⟩
      obtain ⟨L, rfl, hz⟩ : ∃ z : List Nat, l = .str (T z) ∧ z.length ≤ 100 := by
        rcases hv with h | h
        · exact h
        · rcases h with rfl | ⟨i, rfl⟩ | ⟨a, xs, rfl, h⟩ | ⟨a, xs, rfl, h⟩ <;> cases hl
      have h4 : L.length ≤ 4 := by
        have : (isText L smallL 2 4 && rises L) = true := hl
        unfold isText at this
        simp only [Bool.and_eq_true, decide_eq_true_eq] at this
        exact this.1.2.1
      obtain ⟨o, hR, q2, q3⟩ := q L rfl hl
      refine ⟨_, rfl, _, rfl, L, r, o, rfl, by omega, hR.same s1, fun hno H2 s2 => ?_, fun n hn hm => (q2 n hn hm).same s1⟩
      obtain ⟨oe, hE, q4, q5⟩ := q3 hno
      refine ⟨_, rfl, _, rfl, L, x, oe, rfl, hE.same (s1.trans s2), fun hne H3 s3 => ?_, fun n hn hm => (q4 n hn hm).same (s1.trans s2)⟩
      exact ⟨_, rfl, q5 hne H3 ((s1.trans s2).trans s3)⟩
end
end Say
namespace PySem
namespace XBadText
open PySem.W PySem.Calls PyProof.Rows PySem.HandSPX
/-! ### the text of BadText.__init__ -/
abbrev sEx : Stmt := L2.inClass (Say.topS 13) 0
abbrev iA : Arguments := L2.defArgs sEx
abbrev iB : List Stmt := L2.defBody sEx
abbrev iS : Scope := L2.defScope sEx
def eF : Expr := match iB with
  | .Expr (.Call _ (e :: _) _ _) _ :: _ => e
  | _ => .Constant .none 0 ⟨0, 0, 0, 0⟩
theorem eF_eq : ∃ c1 c2 d2 c3 c0, eF = .JoinedStr [.Constant (.str "row ") 0 c1, .FormattedValue (.Name "row" c2) (-1) none d2, .Constant (.str " can't be") 0 c3] c0 := ⟨_, _, _, _, _, rfl⟩
theorem slen (x y : Str) : (x ++ y).length = x.length + y.length := by rw [TL.len_tl, TL.tl_append, List.length_append, ← TL.len_tl, ← TL.len_tl]
theorem iS_cell : ∀ y ∈ iS.names, y.2 ≠ .cell := by decide +kernel
/-- what the written part says of BadText, at C, and of its __init__, at fI -/
structure ExTxt (P : Program) (K : Frag) (mg : Str → Option Value) (C fI : Addr) : Prop where
  gC : mg "BadText" = some (.ref C)
  sB : mg "super" = none
  cls : ∃ nm q N bs bm sn sub ab col dd k0 k1 k2 k3 k5, K.lookup C = some (excClassObj nm q C N bs bm true sn sub ab col dd k0 k1 k2 k3 k5 "ValueError.__new__") ∧ refsVE bm = true
  sa : findIn K (.ref C) "__setattr__" = some (some (.builtin "object.__setattr__"))
  noP0 : findIn K (.ref C) "row" = some none
  iC : findIn K (.ref C) "__init__" = some (some (.ref fI))
  tC : typeIn K (.ref fI) = some (.type "function")
  kC : keepIn K (.ref C) = true
  exC : subIn K (.ref C) (.type "BaseException") = some true
  tyC : typeIn K (.ref C) = some (.type "type")
  sup : ks_superIn K C C "__init__" = some (some (.builtin "ValueError.__init__"))
  subV : subIn K (.ref C) (.type "ValueError") = some true
  any : nsIn K cStatics "thirdparty.any" = some none
  main : (P.main.scope.names.lookup ("super" : Str)).isSome = false
  fn : ∃ (oc : Value) (od : Option Addr) (doc pm : Value) (an : Option Addr) (cda cc : Addr) (ct : Value) (osl : Array (Option Value)),
    K.lookup fI = some ⟨oc, od, .func (ksFn "__init__" "BadText.__init__" iA iB iS .none .none doc pm an (.ref cda) ct cc), osl⟩ ∧ codeIn K (.ref cda) "BadText.__init__" = true ∧
    (∃ cl cld csl, K.lookup cc = some ⟨cl, cld, .cell (some (.ref C)), csl⟩) ∧ ∃ ccl cdd vs ccs file tf, K.lookup cda = some ⟨ccl, cdd, .fields vs, ccs⟩ ∧ vs[2]? = some (.str file tf) ∧ ((P.main.file : Str) == file) = true
/-- what __init__ leaves of a fresh exception at x -/
structure InitEnd (h h' : Heap) (x C dx : Addr) (v0 : Value) : Prop where
  keep : ∀ b o, b ≠ x → h.get? b = some o → h'.get? b = some o
  obj : ∃ t1 : Addr, h'.get? x = some { cls := .ref C, dict := some dx, data := .fields #[.ref t1, .none, .none, .none, .bool false, .none] }
  dbig : h.objs.size ≤ dx
  dne : dx ≠ x
  ns : h'.Ns1 dx (fun y => if y = "row" then some v0 else none)
section
variable {prog : Program} {w : World} {A : Around} {E : Value → Shared → Prop} {R : Result → Shared → Prop} {s : Shared} {K : Frag} {mg : Str → Option Value} {C fI : Addr} {base : Heap}
theorem ld {M : Model} {s : Shared} {env : Env} {m : Str → Option Value} {x : Str} {pos : Pos} {v : Value} {Q : Value → Shared → Prop} {A : Around} {E : Value → Shared → Prop} (hn : s.heap.Ns env.locals m) (hv : m x = some v) (h : Q v s)
    (hk : env.scope.kind = .function) (hl : env.kindOf x = some .local) (hd : (x == ("__debug__" : Str)) = false := by decide) :
    wpAny M A (eval (.Name x pos) env) Q E s := wpAny_Name (wpAny_loadName_local hk hl hn hv h) hd
theorem ex_init (T : ExTxt prog K mg C fI) {x t0 : Addr} {i : Int} {ti : Tok} (B : L2.Mod K mg base) (kb : ∀ b o, base.get? b = some o → s.heap.get? b = some o) (hx : s.heap.get? x = some (excO C t0)) (hnx : base.get? x = none) (hi : i.natAbs.log2 < 1920) (hi2 : (toString i : Str).length ≤ 1000) (hroom : A.depth < recursionLimit)
    (hq : ∀ h' tk dx, InitEnd s.heap h' x C dx (.int i ti) → R (.ok (.ret .none)) { s with heap := h', toks := tk }) :
    codeAny (model prog w) A (.call (.ref fI) ⟨[.ref x, .int i ti], []⟩) R s := by
  obtain ⟨oc, od, doc, pm, an, cda, cc, ct, osl, ho, hcd, ⟨cl, cld, csl, hcell⟩, ccl, cdd, vs, ccs, file, tf, hcode, hvs, hfile⟩ := T.fn
  obtain ⟨nm, q, N, bs, bm, sn, sub, ab, col, dd, k0, k1', k2, k3, k5, hC, hbm⟩ := T.cls
  obtain ⟨hp, g, dr, tk0, os⟩ := s
  have hcl : clsIn K C = some { name := nm, bases := bs, mro := .ref C :: bm, ns := N, qualname := q, hasDict := true, slotNames := sn, subclasses := sub, abstract := ab, collection := col, hasDel := false } := by unfold clsIn; rw [hC] <;> rfl
  have X : K.In hp := B.kin.keeps kb
  have nl : hp.NoLimit := B.nolimit.keeps kb
  refine ks_codeAny_call_defAt (fd := ksFn "__init__" "BadText.__init__" iA iB iS .none .none doc pm an (.ref cda) ct cc) (body := iB) (binds := [("self", .ref x), ("row", .int i ti)])
    hroom (X _ _ ho) rfl nl (codeRec_of X hcd) rfl (BindsTo.of_eq (by first | rfl | with_unfolding_all rfl)) iS_cell (fun y hy => ?_) (fun h₀ hns k => ?_)
  · have e : y = (PySem.Str.ofString "self", Value.ref x) ∨ y = (PySem.Str.ofString "row", Value.int i ti) := by simpa using hy
    rcases e with rfl | rfl
    · exact (by decide +kernel : iS.names.lookup (PySem.Str.ofString "self") = some .local)
    · exact (by decide +kernel : iS.names.lookup (PySem.Str.ofString "row") = some .local)
  generalize hL : (Shared.heap ⟨hp, g, dr, tk0, os⟩).objs.size = L at hns ⊢
  have henv : callEnv (ksFn "__init__" "BadText.__init__" iA iB iS .none .none doc pm an (.ref cda) ct cc) L fI = ksEnv "BadText.__init__" iS L fI (.ref cda) cc := rfl
  rw [henv]
  have X0 : K.In h₀ := X.keeps k
  have hx0 := k _ _ hx
  have kb0 : ∀ b o, base.get? b = some o → h₀.get? b = some o := fun b o e => k b o (kb b o e)
  obtain ⟨oC, hC0, hC1⟩ : ∃ oC, h₀.get? C = some oC ∧ oC.data = .cls { name := nm, bases := bs, mro := .ref C :: bm, ns := N, qualname := q, hasDict := true, slotNames := sn, subclasses := sub, abstract := ab, collection := col, hasDel := false } := ⟨_, X0 _ _ hC, rfl⟩
  have I0 : InstAt h₀ x (excO C t0) C none := ⟨hx0, rfl, rfl, trivial⟩
  obtain ⟨mb, hb1, hb2⟩ := B.blt
  have hxC : x ≠ C := fun z => by
    rw [z, hC0] at hx0
    cases hx0
    cases hC1
  have hsub : mroIn K C (.ref C) = some true := by
    unfold mroIn
    rw [hcl]
    simp
  have nS : iS.names.lookup (PySem.Str.ofString "super") = some .globalImplicit := by decide +kernel
  have nC : iS.names.lookup (PySem.Str.ofString "__class__") = some .free := by decide +kernel
  have nx : iS.names.lookup (PySem.Str.ofString "self") = some .local := by decide +kernel
  have np0 : iS.names.lookup (PySem.Str.ofString "row") = some .local := by decide +kernel
  have hLx : L ≠ x := by
    rw [← hL]
    exact Nat.ne_of_gt (Heap.lt_size hx)
  refine ks_wpAt_execs_cons (ks_wpAt_Expr_any (ks_wpAt_MethodCall (ks_wpAt_super_base nS nC (by decide +kernel) rfl (X0 _ _ ho) rfl rfl rfl (X0 _ _ hcode) rfl hvs hfile T.main ?_)))
  refine ks_loadName_global rfl nS (loadGlobal_builtin (B.glob.keeps kb0) T.sB (hb1.keeps kb0) ((hb2 _ (by decide +kernel)).trans (by decide +kernel)) ⟨rfl, ?_⟩)
  refine wpAny_loadName_free rfl nC rfl ⟨_, X0 _ _ hcell, rfl⟩ ?_
  refine wpAny_loadName_local rfl nx hns rfl ?_
  refine ks_wpAny_isType_cls hC0 hC1 ⟨rfl, ?_⟩
  refine ks_wpAny_call_super hC0 hC1 hx0 rfl (fun c e => by cases e) (looks_mroIn X0 hsub) (fun h1 e1 k1 => ?_)
  have X1 : K.In h1 := X0.keeps k1
  have hx1 := k1 _ _ hx0
  have I1 : InstAt h1 x (excO C t0) C none := ⟨hx1, rfl, rfl, trivial⟩
  have hf : alongIn K "__init__" (((Value.ref C :: bm).dropWhile (· != .ref C)).drop 1) = some (some (.builtin "ValueError.__init__")) := by
    have := T.sup
    unfold ks_superIn at this
    rw [hcl] at this
    exact this
  refine kxs_getMethod kxs_ValueError e1 (looks_opaque X1 T.any) (l₀ := .ref C :: bm) (fun A Q E s k q => wpAny_bind ((looks_clsIn X1 hcl) A _ E s k (wpAny_pure q))) rfl X1 hf (I1.type.andThen (looks_subIn X1 T.subV)) hxC (by decide +kernel) ?_
  have hu : (h1.push (kxs_mw "ValueError.__init__" x)).get? h1.objs.size = some (kxs_mw "ValueError.__init__" x) := Heap.get?_push_size _ rfl
  have k2' : ∀ b o, h₀.get? b = some o → (h1.push (kxs_mw "ValueError.__init__" x)).get? b = some o := fun b o e => Heap.get?_push_of_some _ (k1 b o e)
  generalize h1.push (kxs_mw "ValueError.__init__" x) = h2 at hu k2' ⊢
  generalize h1.objs.size = u at hu ⊢
  have X2 : K.In h2 := X0.keeps k2'
  have hx2 := k2' _ _ hx0
  have hns2 := hns.keeps k2'
  -- the text that is handed on
  show wpAny _ _ (callWith _ (.ref u) [] _ []) _ _ _
  refine kxs_callWith (i := "ValueError.__init__") (x := x) rfl (evalArgs_plain ?_)
  show wpAny _ _ (spliced ((false, eval eF (ksEnv "BadText.__init__" iS L fI (.ref cda) cc)) :: [])) _ _ _
  obtain ⟨c1, c2, d2, c3, c0, eFe⟩ := eF_eq
  rw [eFe]
  have z0 : Str.empty.length = 0 := by decide +kernel
  have z1 : (PySem.Str.ofString "row ").length = 4 := by decide +kernel
  have z2 : (PySem.Str.ofString " can't be").length = 9 := by decide +kernel
  refine Calls.spliced_cons (wpAny_JoinedStr ?_)
  refine wpAny_Constant_str ⟨_, _, rfl, (by show ((Str.empty ++ PySem.Str.ofString "row ")).length ≤ sizeLine; simp only [slen, z0, z1, z2, sizeLine_eq]; omega), ?_⟩
  refine wpAny_FormattedValue_plain (ld hns2 rfl ?_ rfl np0)
  refine wpAny_formatField_int hi ⟨_, _, rfl, (by show (((Str.empty ++ PySem.Str.ofString "row ") ++ (toString i : Str))).length ≤ sizeLine; simp only [slen, z0, z1, z2, sizeLine_eq]; omega), ?_⟩
  refine wpAny_Constant_str ⟨_, _, rfl, (by show ((((Str.empty ++ PySem.Str.ofString "row ") ++ (toString i : Str)) ++ PySem.Str.ofString " can't be")).length ≤ sizeLine; simp only [slen, z0, z1, z2, sizeLine_eq]; omega), ?_⟩
  refine ⟨(by show ((((Str.empty ++ PySem.Str.ofString "row ") ++ (toString i : Str)) ++ PySem.Str.ofString " can't be")).length ≤ sizeLine; simp only [slen, z0, z1, z2, sizeLine_eq]; omega), ?_⟩
  refine Calls.spliced_nil ⟨hu, ?_⟩
  refine wpAny_call (codeAny_of_tree ?_)
  show wpAny _ _ (callAny (.ref u) ⟨_, []⟩) _ _ _
  simp only [callAny]
  refine wpAny_bind (wpAny_load hu ?_)
  simp only [kxs_mw, show (Value.type "method-wrapper" == Value.type "method" || Value.type "method-wrapper" == Value.type "builtin_function_or_method" || Value.type "method-wrapper" == Value.type "method-wrapper") = true by decide, if_true]
  refine KFB.if_so (by decide) ?_
  refine wpAny_bind (check_bound_init F.excBase_ValueError.toExcCallFacts (X2 _ _ hC) hx2 rfl ?_)
  refine wpAny_bind (wpAny_pure (wpAny_pure ?_))
  refine ⟨plainId_quiet F.excBase_ValueError.init.plain _, codeAny_builtin F.excBase_ValueError.initEntry ?_⟩
  refine exc_init_tree (cls := .ref C) (t0 := t0) (dv := none) (c2 := .none) (c3 := .none) (b4 := .bool false) hx2 (by rw [sizeLine_eq]; show 1 ≤ 16777216; decide) fun h3 k3 e3 _ => ?_
  have k3' : ∀ b o, b ≠ x → h₀.get? b = some o → h3.get? b = some o := fun b o hb e => k3 b o hb (k2' b o e)
  have X3 : K.In h3 := fun b o e => k3' b o (fun z => by
    have := B.kin b o e
    rw [z, hnx] at this
    cases this) (X0 b o e)
  have hns3 : h3.Ns L (fun y => (([("self", Value.ref x), ("row", .int i ti)] : List (Str × Value)).reverse.lookup y)) := hns.at fun o e => k3' L o hLx e
  show wpAt _ _ _ (execs (_ :: []) _) _ _ _
  refine ks_wpAt_execs_cons (ks_wpAt_Assign_Attr (wpAt_of_wpAny (ld hns3 rfl (ld hns3 rfl ?_ rfl nx) rfl np0)))
  refine set_plain X3 (ox := excO C h2.objs.size) (od := none) ⟨e3, rfl, rfl, trivial⟩ T.sa ?_
  refine exc_osa X3 e3 hcl (show refsVE (.ref C :: bm) = true from hbm) rfl T.noP0 (fun h4 tk4 dx k4 dn dne hx4 hn4 => ?_)
  show wpAt _ _ _ (execs [] _) _ _ _
  refine wpAt_of_wpAny (wpAny_execs_nil ?_)
  have big : hp.objs.size ≤ dx := by
    have h1 : L < h3.objs.size := hns3.lt
    have h2 : hp.objs.size = L := hL
    exact Nat.le_trans (Nat.le_of_eq h2) (Nat.le_trans (Nat.le_of_lt h1) dn)
  exact hq h4 _ dx ⟨fun b o hb e => k4 b o hb (k3' b o hb (k b o e)), ⟨_, hx4⟩, big, dne, hn4⟩
end
end XBadText
end PySem
namespace PySem
namespace XBadText
open PySem.W PySem.Calls PyProof.Rows PySem.HandSPX
/-- a made BadText -/
structure OwnMade (h h' : Heap) (e C d : Addr) (v0 : Value) : Prop where
  keep : ∀ b o, h.get? b = some o → h'.get? b = some o
  new : h.objs.size ≤ e
  obj : ∃ oe vs, h'.get? e = some oe ∧ oe.cls = .ref C ∧ oe.dict = some d ∧ oe.data = .fields vs ∧ vs[1]? = some .none
  dbig : h.objs.size ≤ d
  dne : d ≠ e
  ns : h'.Ns1 d (fun y => if y = "row" then some v0 else none)
theorem one_size (v0 : Value) : [v0].length ≤ sizeLine := by
  rw [sizeLine_eq]
  exact (by decide : 1 ≤ 16777216)
section
variable {prog : Program} {w : World} {A : Around} {E : Value → Shared → Prop} {R : Result → Shared → Prop} {s : Shared} {K : Frag} {mg : Str → Option Value} {C fI : Addr} {base : Heap}
theorem ex_made (T : ExTxt prog K mg C fI) {i : Int} {ti : Tok} (B : L2.Mod K mg base) (kb : ∀ b o, base.get? b = some o → s.heap.get? b = some o) (hi : i.natAbs.log2 < 1920) (hi2 : (toString i : Str).length ≤ 1000) (hroom : A.depth + 1 < recursionLimit)
    (hq : ∀ h' tk e d, OwnMade s.heap h' e C d (.int i ti) → R (.ok (.ret (.ref e))) { s with heap := h', toks := tk }) :
    codeAny (model prog w) A (.call (.ref C) ⟨[.int i ti], []⟩) R s := by
  obtain ⟨nm, q, N, bs, bm, sn, sub, ab, col, dd, k0, k1, k2, k3, k5, hC, hbm⟩ := T.cls
  have X : K.In s.heap := B.kin.keeps kb
  obtain ⟨hp, g, dr, tk, os⟩ := s
  have k : ∀ b o, hp.get? b = some o → ((hp.push (kdv_tup [.int i ti])).push (excO C hp.objs.size)).get? b = some o := fun b o e => Heap.get?_push_of_some _ (Heap.get?_push_of_some _ e)
  have hget : ((hp.push (kdv_tup [.int i ti])).push (excO C hp.objs.size)).get? (hp.objs.size + 1) = some (excO C hp.objs.size) := by heap_get
  have hnx : base.get? (hp.objs.size + 1) = none := by
    cases e : base.get? (hp.objs.size + 1) with
    | none => rfl
    | some o =>
      have z : hp.get? (hp.objs.size + 1) = some o := kb _ _ e
      exact absurd (Nat.lt_of_succ_lt (Heap.lt_size z)) (Nat.lt_irrefl _)
  refine call_own F.excBase_ValueError (fun X => refsVE_contains X bm hbm) (X _ _ hC) (looks_findIn X T.iC) (fun self => bind_fn X self T.tC) (one_size (.int i ti)) ?_
  refine ex_init (s := ⟨(hp.push (kdv_tup [.int i ti])).push (excO C hp.objs.size), g, dr, tk, os⟩) T B (fun b o e => k b o (kb b o e)) hget hnx hi hi2 ?_ fun h' tk' dx ⟨k', ⟨t1, hx⟩, dn, dne, hns⟩ => ?_
  · show A.depth + 1 < recursionLimit
    exact hroom
  · have old : ∀ b o, hp.get? b = some o → h'.get? b = some o := fun b o e => k' b o (Nat.ne_of_lt (Nat.lt_succ_of_lt (Heap.lt_size e))) (k b o e)
    have z : hp.objs.size + 1 + 1 ≤ dx := by
      first
        | (simpa only [Heap.size_push] using dn)
        | exact dn
        | (have q := dn; rw [Heap.size_push, Heap.size_push] at q; exact q)
    exact ⟨rfl, hq h' tk' (hp.objs.size + 1) dx ⟨old, Nat.le_succ _, ⟨_, _, hx, rfl, rfl, rfl, rfl⟩, Nat.le_trans (Nat.le_trans (Nat.le_succ _) (Nat.le_succ _)) z, dne, hns⟩⟩
end
end XBadText
end PySem
namespace Say
open PySem PySem.Spec PyProof.Rows L2
theorem rel_BadText {i : Int} {ti : Tok} (f : Str) : RelO (List.lookup f ([(("row" : Str), .int i)] : List (Str × V))) (if f = "row" then some (Value.int i ti) else none) := by
  refine relO_put (f := "row") (mA := fun _ => none) (y := .int i) (u := .int i ti) (fs := []) ⟨_, rfl⟩ (fun g => ?_) f
  exact True.intro
section
variable {X : Cx} {C fI : Addr}
/-- BadText(e) -/
def tMkBadText (C : Addr) (ta : TA) : L2.St → Hp → XK → Prop := fun σ H Q => ta σ H fun vs H1 => ∃ i : Int, vs = [.int i] ∧ (-1 ≤ i ∧ i ≤ 100) ∧ ∀ d, H1 d = none → Q (.ref C) (some d) (upd H1 d (.xd [(("row" : Str), .int i)]))
theorem small_BadText {i : Int} (h : -1 ≤ i ∧ i ≤ 100) : i.natAbs.log2 < 1920 ∧ (toString i : Str).length ≤ 1000 := by
  have key : ∀ q : Fin 102, ((q.1 : Int) - 1).natAbs.log2 < 1920 ∧ (toString ((q.1 : Int) - 1) : Str).length ≤ 1000 := by decide +kernel
  have e : i = (((i + 1).toNat : Nat) : Int) - 1 := by omega
  rw [e]
  exact key ⟨(i + 1).toNat, by omega⟩
theorem pmk_BadText {a : Expr} {ta : TA} {p pos : Pos} {k : Nat} (T : PySem.XBadText.ExTxt X.prog X.K X.mg C fI) (hr : Room k X.A) (ha : PA X [a] ta) (hg : Gl X "BadText" := by rfl)
    (he : starEach (a :: []) X.env = (false, eval a X.env) :: starEach [] X.env := by rfl) (hpl : (backTo pos (starEach [] X.env)).any (·.1) = false := by rfl) :
    PMk X (.Call (.Name "BadText" p) [a] [] pos) (tMkBadText C ta) := by
  intro pins s σ H Q I h
  unfold tMkBadText at h
  refine wpAny_Call_Name_kw (ld_glob I hg T.gC ?_)
  refine PySem.W.callWith_K (h₀ := X.base) I.ok.mod.kin T.kC (thn (ha.run pos pins s σ H _ I h) fun us s1 hh => ?_) he hpl
  obtain ⟨vs, H1, I1, r1, i, ev, ni, q1⟩ := hh
  subst ev
  refine ⟨I1.kIn, ?_⟩
  obtain ⟨v', rfl, rv⟩ := vals1 r1
  obtain ⟨ti, rfl⟩ := rv
  show wpAny _ _ (call (.ref C) [.int i ti]) _ _ _
  have b1 := I1.mod
  have b2 := I1.bk
  obtain ⟨hp, g, dr, tk, os⟩ := s1
  refine wpAny_call (PySem.XBadText.ex_made T b1 b2 (small_BadText ni).1 (small_BadText ni).2 (by have := hr.dp; omega) fun h' tk' e d M => ?_)
  show MkP X pins σ Q (.ref e) ⟨h', g, dr, tk', os⟩
  obtain ⟨oe, fv, hoe, hc, hd, hdat, h1⟩ := M.obj
  have hns := M.ns
  obtain ⟨G', g1, g2⟩ := restrict h' fun b => decide (b ≠ e)
  have gk : ∀ b, b ≠ e → G'.get? b = h'.get? b := fun b hb => g1 b (decide_eq_true hb)
  have ge : G'.get? e = none := g2 e (by simp)
  have old : ∀ b o, hp.get? b = some o → G'.get? b = some o := fun b o q => (gk b (Nat.ne_of_lt (Nat.lt_of_lt_of_le (Heap.lt_size q) M.new))).trans (M.keep b o q)
  have ob : ObjOk X.prog X.w (upd H1 d (.xd [(("row" : Str), .int i)])) G' d (.xd [(("row" : Str), .int i)]) :=
    ⟨_, hns.at (fun o q => (gk d M.dne).trans q), fun f => rel_BadText f⟩
  have J : Inv X pins σ (upd H1 d (.xd [(("row" : Str), .int i)])) ⟨G', g, dr, tk', os⟩ := I1.laid (t' := tk') old M.dbig ob
  refine ⟨e, oe, fv, ⟨G', g, dr, tk', os⟩, _, .ref C, some d, rfl, J, fun b o q => ?_, ge, hoe, ⟨hc, hd⟩, hdat, h1, ?_, rfl, I1.bare, raises_own T.exC T.tyC, q1 d (I1.hok.fresh M.dbig)⟩
  · by_cases hb : b = e
    · have q' : G'.get? b = some o := q
      rw [hb, ge] at q'; cases q'
    · exact (gk b hb).symm.trans q
  · rw [upd_ne (Ne.symm M.dne)]
    exact I1.hok.fresh M.new
/-- raise BadText(e) -/
def tRaiseBadText (C : Addr) (W : WX) (ta : TA) : TS := fun _ σ H => tMkBadText C ta σ H fun cls d H' => W cls d σ H'
theorem ps_raiseBadText {a : Expr} {ta : TA} {W : WX} {p pos pos2 : Pos} {k : Nat} (hc : X.calm = true) (T : PySem.XBadText.ExTxt X.prog X.K X.mg C fI) (hr : Room k X.A) (tk : Takes X W) (ha : PA X [a] ta) (hg : Gl X "BadText" := by rfl)
    (he : starEach (a :: []) X.env = (false, eval a X.env) :: starEach [] X.env := by rfl) (hpl : (backTo pos (starEach [] X.env)).any (·.1) = false := by rfl) :
    PS X (.Raise (some (.Call (.Name "BadText" p) [a] [] pos)) none pos2) (tRaiseBadText C W ta) := ps_raise hc tk (pmk_BadText T hr ha hg he hpl)
end
end Say
namespace Say
open PySem PySem.Spec PyProof.Rows L2
/-! ### any rows -/
def lastH (rows : List (List (List Nat))) : Nat → List Nat
  | 0 => []
  | n + 1 => hdR (rows.getD n [])
def rowOk (rows : List (List (List Nat))) (n : Nat) : Prop := isRowM (rows.getD n []) = true ∧ (follM (lastH rows n)).contains (hdR (rows.getD n [])) = true
def badRow (rows : List (List (List Nat))) (n : Nat) : Prop := n < rows.length ∧ ¬ rowOk rows n
theorem last_key {rows : List (List (List Nat))} : ∀ {n : Nat}, n ≤ rows.length → (∀ m, m < n → ¬ badRow rows m) → lastH rows n ∈ keysN
  | 0, _, _ => (by decide +kernel : ([] : List Nat) ∈ keysN)
  | n + 1, h, hb => by
    have ih := last_key (n := n) (by omega) fun m hm => hb m (by omega)
    have : rowOk rows n := Classical.byContradiction fun c => hb n (Nat.lt_succ_self n) ⟨by omega, c⟩
    exact foll_mem ih this.2
/-- what rows are like that are read -/
structure RowsP (rows : List (List (List Nat))) : Prop where
  ne : rows ≠ []
  r : ∀ r ∈ rows, r ≠ [] ∧ r.length ≤ 90 ∧ ∀ z ∈ r, z.length ≤ 90 ∧ ∀ c ∈ z, c ≠ 32 ∧ c ≠ 10 ∧ c < 256
  l : rows.length ≤ 90
def textN (rows : List (List (List Nat))) : List Nat := TL.joinL [10] (rows.map lineM)
theorem RowsP.split {rows : List (List (List Nat))} (h : RowsP rows) : Txt.split (T (textN rows)) (T [10]) = (rows.map lineM).map T := by
  refine split_T (by decide) (fun e => h.ne (List.map_eq_nil_iff.mp e)) fun l hl hc => ?_
  obtain ⟨r, hr, rfl⟩ := List.mem_map.mp hl
  rcases joinL_mem hc with hc | ⟨y, hy, hc⟩
  · revert hc; decide
  · exact (((h.r r hr).2.2 y hy).2 10 hc).2.1 rfl
theorem RowsP.row {rows : List (List (List Nat))} (h : RowsP rows) {r : List (List Nat)} (hr : r ∈ rows) : Txt.split (T (lineM r)) (T [32]) = r.map T :=
  split_T (by decide) (h.r r hr).1 fun l hl hc => (((h.r r hr).2.2 l hl).2 32 hc).1 rfl
theorem RowsP.line {rows : List (List (List Nat))} (h : RowsP rows) {r : List (List Nat)} (hr : r ∈ rows) : (lineM r).length ≤ 8190 := by
  have h1 := joinL_len [32] r
  obtain ⟨_, h2, h3⟩ := h.r r hr
  have h4 : (r.map List.length).sum ≤ r.length * 90 := by
    have := sum_le (n := 90) (ls := r.map List.length) fun x hx => by
      obtain ⟨z, hz, rfl⟩ := List.mem_map.mp hx
      exact (h3 z hz).1
    rwa [List.length_map] at this
  unfold lineM
  have : r.length * [32].length = r.length := Nat.mul_one _
  omega
theorem RowsP.text {rows : List (List (List Nat))} (h : RowsP rows) : (textN rows).length ≤ 737200 := by
  have h1 := joinL_len [10] (rows.map lineM)
  have hl := h.l
  have h4 : ((rows.map lineM).map List.length).sum ≤ (rows.map lineM).length * 8190 := by
    have := sum_le (n := 8190) (ls := (rows.map lineM).map List.length) fun x hx => by
      obtain ⟨z, hz, rfl⟩ := List.mem_map.mp hx
      obtain ⟨r, hr, rfl⟩ := List.mem_map.mp hz
      exact h.line hr
    rwa [List.length_map] at this
  unfold textN
  rw [List.length_map] at h1 h4
  have : rows.length * [10].length = rows.length := Nat.mul_one _
  omega
def partsD (rr : List (List (List Nat))) : PyData := .tuple (rr.map fun r => .tuple (r.map fun z => .str (T z)))
def bookN (z : List Nat) (rr ee : List (List (List Nat))) : PyData := .tuple [.str (T z), partsD rr, partsD ee]
theorem dp_strs {K : PySem.W.Frag} {H : Hp} : ∀ r : List (List Nat), DpAll K H (strV r) (r.map fun z => .str (T z))
  | [] => .nil
  | z :: r => .cons (.str _) (dp_strs r)
theorem dp_parts {K : PySem.W.Frag} {H : Hp} {R : Addr} {ts : List Addr} {rr : List (List (List Nat))} (h : SqT K H R (ts.map V.ref)) (p : TRows H ts rr) : Dp K H (.ref R) (partsD rr) := by
  refine .tup h ?_
  clear h
  unfold TRows at p
  induction p with
  | nil => exact .nil
  | cons a _ ih => exact .cons (.tup (.inl (.inl a)) (dp_strs _)) ih
/-- a book that is read, good or not -/
def NoteAt (H : Hp) (b : Addr) (z : List Nat) (rr ee : List (List (List Nat))) : Prop := ∃ (R X : Addr) (tR tX : List Addr), H b = some (.tup [.str (T z), .ref R, .ref X]) ∧ (H R = some (.tup (tR.map V.ref)) ∧ TRows H tR rr) ∧ H X = some (.tup (tX.map V.ref)) ∧ TRows H tX ee
theorem NoteAt.kt {H H' : Hp} {b : Addr} {z : List Nat} {rr ee : List (List (List Nat))} (h : NoteAt H b z rr ee) (k : KT H H') : NoteAt H' b z rr ee := by
  obtain ⟨R, X, tR, tX, h1, ⟨h2, h3⟩, h4, h5⟩ := h
  exact ⟨R, X, tR, tX, k.1 _ _ h1, ⟨k.1 _ _ h2, paired_mono (fun _ _ q => k.1 _ _ q) h3⟩, k.1 _ _ h4, paired_mono (fun _ _ q => k.1 _ _ q) h5⟩
theorem NoteAt.dp {K : PySem.W.Frag} {H : Hp} {b : Addr} {z : List Nat} {rr ee : List (List (List Nat))} (h : NoteAt H b z rr ee) : Dp K H (.ref b) (bookN z rr ee) := by
  obtain ⟨R, X, tR, tX, h1, ⟨h2, h3⟩, h4, h5⟩ := h
  exact .tup (.inl (.inl h1)) (.cons (.str _) (.cons (dp_parts (.inl (.inl h2)) h3) (.cons (dp_parts (.inl (.inl h4)) h5) .nil)))
theorem rulR_of {K : PySem.W.Frag} {H : Hp} {L : List Nat} {t : Addr} {r : List (List Nat)} (h : H t = some (.tup (strV r))) (h90 : ∀ z ∈ r, z.length ≤ 100) : ∃ b, RulR K H L (.ref t) b := by
  by_cases c : r.length = 4
  · match r, c, h, h90 with
    | [a, o, e, s], _, h, h90 => exact ⟨_, .inr (.inr ⟨t, _, _, _, _, rfl, .inl (.inl h), .inl ⟨a, rfl, h90 a (by simp)⟩, .inl ⟨o, rfl, h90 o (by simp)⟩, .inl ⟨e, rfl, h90 e (by simp)⟩, .inl ⟨s, rfl, h90 s (by simp)⟩, rfl⟩)⟩
  · exact ⟨false, .inr (.inl ⟨t, _, rfl, .inl (.inl h), by rw [strV_len]; exact c, rfl⟩)⟩
theorem excR_of {K : PySem.W.Frag} {H : Hp} {L : List Nat} {t : Addr} {r : List (List Nat)} (h : H t = some (.tup (strV r))) (h90 : ∀ z ∈ r, z.length ≤ 100) : ∃ b, ExcR K H L (.ref t) b := by
  by_cases c : r.length = 2
  · match r, c, h, h90 with
    | [a, s], _, h, h90 =>
      have ha : VOk K H (.str (T a)) := .inl ⟨a, rfl, h90 a (by simp)⟩
      have hs : VOk K H (.str (T s)) := .inl ⟨s, rfl, h90 s (by simp)⟩
      cases e : excV L (.str (T a)) (.str (T s)) with
      | false => exact ⟨none, .inr (.inr ⟨t, _, _, rfl, .inl (.inl h), ha, hs, .inl ⟨e, rfl⟩⟩)⟩
      | true => exact ⟨some a, .inr (.inr ⟨t, _, _, rfl, .inl (.inl h), ha, hs, .inr ⟨a, rfl, e, rfl⟩⟩)⟩
  · exact ⟨none, .inr (.inl ⟨t, _, rfl, .inl (.inl h), by rw [strV_len]; exact c, rfl⟩)⟩
theorem all_views {α β : Type} {F : α → β → Prop} : ∀ {xs : List α}, (∀ x ∈ xs, ∃ b, F x b) → ∃ bs, Paired F xs bs
  | [], _ => ⟨[], .nil⟩
  | x :: r, h => by
    obtain ⟨b, hb⟩ := h x (List.mem_cons_self ..)
    obtain ⟨bs, hbs⟩ := all_views (xs := r) fun y hy => h y (List.mem_cons_of_mem _ hy)
    exact ⟨b :: bs, .cons hb hbs⟩
theorem um_len (z : List Nat) : (umE z).length ≤ z.length := by
  unfold umE
  by_cases e : z = [45]
  · rw [if_pos e]; exact Nat.zero_le _
  · rw [if_neg e]; exact Nat.le_refl _
theorem things_len {rows : List (List (List Nat))} (h : RowsP rows) (k : List Nat) : ∀ r ∈ thingsM rows k, ∀ z ∈ r, z.length ≤ 100 := fun r hr z hz => by
  unfold thingsM at hr
  obtain ⟨r0, h0, rfl⟩ := List.mem_map.mp hr
  obtain ⟨z0, hz0, rfl⟩ := List.mem_map.mp hz
  have := ((h.r r0 (List.mem_filter.mp h0).1).2.2 z0 (List.mem_of_mem_tail hz0)).1
  have := um_len z0
  omega
theorem things_count {rows : List (List (List Nat))} (h : RowsP rows) (k : List Nat) : (thingsM rows k).length ≤ 90 := by
  unfold thingsM
  rw [List.length_map]
  exact Nat.le_trans (List.length_filter_le _ _) h.l
theorem row0 {rows : List (List (List Nat))} (h : RowsP rows) (ok : ∀ n, ¬ badRow rows n) : ∃ z, rows[0]? = some [kwL, z] := by
  have hl : 0 < rows.length := Nat.pos_of_ne_zero fun z => h.ne (List.eq_nil_of_length_eq_zero z)
  have r0 : rowOk rows 0 := Classical.byContradiction fun c => ok 0 ⟨hl, c⟩
  obtain ⟨h1, h2⟩ := r0
  have e : rows.getD 0 [] = rows[0] := by rw [List.getD_eq_getElem?_getD, List.getElem?_eq_getElem hl]; rfl
  rw [e] at h1 h2
  have hk : hdR rows[0] = kwL := by
    have h2 : ([kwL].contains (hdR rows[0])) = true := h2
    rw [List.contains_iff_mem] at h2
    exact List.mem_singleton.mp h2
  unfold isRowM at h1
  rw [hk] at h1
  have h3 := (Bool.and_eq_true _ _ |>.mp h1).2
  have h3 : V.int 2 = V.int (rows[0].length : Nat) := of_decide_eq_true h3
  have h3 : rows[0].length = 2 := by have := V.int.inj h3; omega
  rw [List.getElem?_eq_getElem hl]
  generalize rows[0] = r at hk h3
  match r, h3, hk with
  | [a, z], _, hk => exact ⟨z, by rw [← hk]; rfl⟩
section
variable {P : Program} {w : World} {K : PySem.W.Frag} {mg : Str → Option Value} {base : Heap} {CB CT fI fI2 : Addr}
def refT (CT : Addr) (H : Hp) (E : XK) (n : Int) : Prop := ∀ d H', Same H H' → H d = none → H' d = some (.xd [(("row" : Str), .int n)]) → E (.ref CT) (some d) H'
def spCrX (CT : Addr) : Sp := fun vs H Q E => ∃ (D : Addr) (rows : List (List (List Nat))), vs = [.ref D] ∧ LRows H D rows ∧ (∀ r ∈ rows, r ≠ []) ∧ rows.length ≤ 90 ∧ ((∀ n, ¬ badRow rows n) → ∀ (H' : Hp), Same H H' → Q .non H') ∧ (∀ n : Nat, badRow rows n → (∀ m, m < n → ¬ badRow rows m) → refT CT H E n)
theorem ok_crX {f : Addr} {fd : FuncData} (F : Fun K "check_rows" "check_rows" sCr f fd) (B : Bn mg) (NK : NoteK K w mg) (O : PySem.XBadText.ExTxt P K mg CT fI) (DI : Df P w K mg base "is_row" ["words"] 1 spIr) : FnOk P w K mg base (L2.CX P w) 2 f fd ["rows"] (spCrX CT) := by
  obtain ⟨fI, fdI, GI, kI, bI, mI⟩ := DI
  obtain ⟨_, ⟨aF, mF, gF⟩⟩ := NK
  refine F.okX scCr (fun vs H Q E h => ?_) (fun cdv A outer s H vs Q E hr h => ?_)
  · obtain ⟨D, rows, rfl, _⟩ := h
    rfl
  · obtain ⟨D, rows, rfl, ⟨tr, hD, pr⟩, hne, h90, q1, q2⟩ := h
    have px : PassesOwn (model P w) (A.deeper (envOfC "check_rows" (defScope sCr) s.heap.objs.size f cdv)) (envOfC "check_rows" (defScope sCr) s.heap.objs.size f cdv) (cxOf (L2.CX P w) P w K mg base nCr "check_rows" (defScope sCr) f cdv A outer s H E).xe := PassesOwn.leaving
    refine ⟨_, pss_cons (ps_set (i := 1) scCr.nd rfl (.inl rfl) pe_str)
      (pss_one (ps_for px rfl (pi_enum (by rfl) B.enu (pa_cons (pv 0) pa_nil)) (pg_tup (by rfl) (pgs_cons (pg_name (i := 2) scCr.nd rfl (.inl rfl)) (pgs_cons (pg_name (i := 3) scCr.nd rfl (.inl rfl)) pgs_nil)))
        (pss_cons (ps_if (PW.pt (pw_or (pt_not (pt_val (pe_call GI hr (by rfl) mI kI bI .nil pass0 (pa_cons (pv 3) pa_nil))))
            (pw_or1 (pt_cmpR op_notIn_seq (pe_ix ix_list (pv 3) pe_int (fun _ _ => rfl)) (pe_ix ix_kdict (pe_glob (v := .ref aF) rfl mF rfl) (pv 1) (fun _ _ => rfl)) rfl)))) (pss_one (ps_raiseBadText rfl O hr (takes_of rfl rfl rfl rfl) (by exact (pa_cons (pv 2) pa_nil)))) pss_nil)
        (pss_one (ps_set (i := 1) scCr.nd rfl (.inl rfl) (pe_ix ix_list (pv 3) pe_int (fun _ _ => rfl))))))), ?_⟩
    have hl := paired_len pr
    refine ⟨_, rfl, D, _, rfl, .inl (.inl hD), for_it (walk_enum (xs := tr.map V.ref)) (fun i σ H2 => Same H H2 ∧ (∃ v2 v3, σ = [some (.ref D), some (.str (T (lastH rows i))), v2, v3]) ∧ ∀ m, m < i → ¬ badRow rows m)
      ⟨Same.refl H, ⟨_, _, by rw [show lastH rows 0 = [] from rfl, ← show Str.ofString "" = T [] from nil_eq]; rfl⟩, fun m hm => absurd hm (Nat.not_lt_zero m)⟩ (fun i σ H2 _ h => .inl (.inl (h.1 _ _ hD))) ?_ ?_⟩
    · rintro i x σ H2 H3 hi ⟨s2, ⟨v2, v3, rfl⟩, hb⟩ ⟨t, x1, x2, rfl, ht, rfl, g1, g2⟩
      cases g1
      have g2 : (tr.map V.ref)[i]? = some x2 := g2
      rw [List.getElem?_map] at g2
      obtain ⟨a, ha, e⟩ := Option.map_eq_some_iff.mp g2
      subst e
      obtain ⟨r, hrr, hat⟩ := paired_at pr ha
      have hib : i < rows.length := (List.getElem?_eq_some_iff.mp hrr).1
      have hrn := hne r (List.mem_of_getElem? hrr)
      have sm := same_new ht (.tup [.int (i : Nat), .ref a])
      have hat3 := sm _ _ (s2 _ _ hat)
      have er : rows.getD i [] = r := by rw [List.getD_eq_getElem?_getD, hrr]; rfl
      obtain ⟨p, kd, sq⟩ := gF (lastH rows i) (last_key (by omega) hb)
      have ref : ¬ rowOk rows i → ∃ n : Int, [V.int (i : Nat)] = [V.int n] ∧ (-1 ≤ n ∧ n ≤ 100) ∧ ∀ d, (upd H2 t (.tup [.int (i : Nat), .ref a])) d = none → E (.ref CT) (some d) (upd (upd H2 t (.tup [.int (i : Nat), .ref a])) d (.xd [(("row" : Str), .int n)])) := fun bd =>
        ⟨(i : Nat), rfl, ⟨by omega, by omega⟩, fun d hd => q2 i ⟨hib, bd⟩ hb d _ ((s2.trans sm).trans (same_new hd _)) ((s2.trans sm).free hd) upd_same⟩
      unfold rowOk at ref
      rw [er] at ref
      refine ⟨t, _, rfl, .inl (.inl upd_same), rfl, _, _, rfl, _, _, rfl, rfl, ?_⟩
      refine ⟨_, rfl, a, r, rfl, hat3, hrn, ?_⟩
      cases c1 : isRowM r with
      | false => exact ⟨false, rfl, iteT ⟨_, rfl, ref fun z => by rw [c1] at z; cases z.1⟩⟩
      | true =>
        refine ⟨true, rfl, iteF ?_⟩
        refine ⟨_, rfl, a, _, 0, .str (T (hdR r)), rfl, rfl, .inl (.inl hat3), atI_nat (j := 0) (strV_at (hd_at hrn)), _, rfl, aF, T (lastH rows i), _, rfl, rfl, kd, p, _, rfl, .inr (sq _), rfl, strV_flat _, ?_⟩
        refine ⟨_, rfl, ?_⟩
        rw [inV_str]
        cases c2 : (follM (lastH rows i)).contains (hdR r) with
        | false => exact iteT ⟨_, rfl, ref fun z => by rw [c2] at z; cases z.2⟩
        | true =>
          refine iteF ?_
          refine ⟨_, rfl, a, _, 0, .str (T (hdR r)), rfl, rfl, .inl (.inl hat3), atI_nat (j := 0) (strV_at (hd_at hrn)), ?_⟩
          refine ⟨s2.trans sm, ⟨_, _, by rw [show lastH rows (i + 1) = hdR r by show hdR (rows.getD i []) = hdR r; rw [er]]; rfl⟩, fun m hm => ?_⟩
          rcases Nat.lt_or_eq_of_le (Nat.le_of_lt_succ hm) with h | h
          · exact hb m h
          · rw [h]
            rintro ⟨_, z⟩
            apply z
            unfold rowOk
            rw [er]
            exact ⟨c1, c2⟩
    · rintro σ H2 ⟨s2, _, hb⟩
      exact q1 (fun n hn => hb n (by have := hn.1; rw [List.length_map]; omega) hn) H2 s2
def spRdX (K : PySem.W.Frag) (CB CT : Addr) : Sp := fun vs H Q E => ∃ (rows : List (List (List Nat))), vs = [.str (T (textN rows))] ∧ RowsP rows ∧ (∀ n : Nat, badRow rows n → (∀ m, m < n → ¬ badRow rows m) → refT CT H E n) ∧
  ((∀ n, ¬ badRow rows n) → (∀ p n : Int, refB CB H E p n) ∧ ∀ (b : Addr) (z : List Nat) (H' : Hp), Same H H' → rows[0]? = some [kwL, z] → NoteAt H' b z (thingsM rows kwR) (thingsM rows kwW) → Q (.ref b) H')
end
end Say
namespace Say
open PySem PySem.Spec PyProof.Rows L2
section
variable {P : Program} {w : World} {K : PySem.W.Frag} {mg : Str → Option Value} {base : Heap} {CB CT fI fI2 : Addr}
theorem ok_rdX {f fT : Addr} {fd fdT : FuncData} (F : Fun K "read" "read" sRd f fd) (B : Bn mg) {fR fC : Addr} {fdR fdC : FuncData}
    (GR : FnOk P w K mg base (L2.CX P w) 2 fR fdR ["rows"] (spCrX CT)) (kR : PySem.W.keepIn K (.ref fR) = true) (bR : Binds K fdR ["rows"] []) (mR : mg "check_rows" = some (.ref fR)) (DU : Df P w K mg base "unmarked" ["word"] 1 spUm)
    (GT : ∀ fr, FnOk P w K mg base CX0 2 fT fdT ["rows", "kind"] (spTo fr)) (kT : PySem.W.keepIn K (.ref fT) = true) (bT : Binds K fdT ["rows", "kind"] []) (mT : mg "things_of" = some (.ref fT))
    (GC : FnOk P w K mg base (L2.CX P w) 5 fC fdC ["book"] (spChV K CB)) (kC : PySem.W.keepIn K (.ref fC) = true) (bC : Binds K fdC ["book"] []) (mC : mg "checked_book" = some (.ref fC)) : FnOk P w K mg base (L2.CX P w) 6 f fd ["text"] (spRdX K CB CT) := by
  obtain ⟨fU, fdU, GU, kU, bU, mU⟩ := DU
  refine F.okX scRd (fun vs H Q E h => ?_) (fun cdv A outer s H vs Q E hr h => ?_)
  · obtain ⟨rows, rfl, _⟩ := h
    rfl
  · obtain ⟨rows, rfl, ho, qT, qB⟩ := h
    have hr1 : Room 1 _ := hr.mono (by decide)
    have hr2 : Room 2 _ := hr.mono (by decide)
    have tk : Takes _ (fun cls d _ H => E cls d H) := takes_of (X := cxOf (L2.CX P w) P w K mg base nRd "read" (defScope sRd) f cdv A outer s H E) rfl rfl rfl rfl
    refine ⟨_, pss_cons (ps_if (pt_not (pt_val (pe_callB call_isi (by rfl) B.isi (by decide +kernel) (pa_cons (pv 0) (pa_cons (pe_bltn (v := .ty "str") rfl B.str (by decide +kernel) rfl) pa_nil))))) (pss_one ps_never) pss_nil)
      (pss_cons (ps_setLc (i := 1) (own := [("row", 2)]) (g := gName 2) rfl scRd.nd rfl rfl (sw_true rfl rfl rfl (by decide +kernel)) (pi_list (pe_split (pv 0) pe_str)) (blkOk_by (N := nRd) (sc := defScope sRd) (by decide +kernel)) (fun _ _ _ _ _ => pg_name (i := 2) scRd.nd rfl (.inl rfl)) (fun _ _ _ _ _ => pts_nil)
          (fun _ _ _ _ _ => pe_split (pv 2) pe_str))
      (pss_cons (ps_expr (pe_callS GR hr2 (by rfl) mR kR bR (fun σ => passAt tk σ) (by exact (pa_cons (pv 1) pa_nil))))
      (pss_one (ps_ret (pe_callS GC hr (by rfl) mC kC bC (fun σ => passAt tk σ) (by exact (pa_cons (pe_tup (pa_cons (pe_call GU hr1 (by rfl) mU kU bU .nil pass0 (pa_cons (pe_ix ix_list (pe_ix ix_list (pv 1) pe_int (fun _ _ => rfl)) pe_int (fun _ _ => rfl)) pa_nil))
        (pa_cons (pe_call (GT false) hr2 (by rfl) mT kT bT .nil pass0 (pa_cons (pv 1) (pa_cons pe_str pa_nil))) (pa_cons (pe_call (GT false) hr2 (by rfl) mT kT bT .nil pass0 (pa_cons (pv 1) (pa_cons pe_str pa_nil))) pa_nil)))) pa_nil))))))), ?_⟩
    have tl := ho.text
    have hl := ho.l
    refine ⟨_, rfl, _, _, .type "str", _, true, rfl, ClsV.ty _, .base (.str _), kit_ty (by decide +kernel), true, rfl, iteF ?_⟩
    refine ⟨_, rfl, ⟨_, rfl⟩, _, _, rfl, rfl, (by decide +kernel), (by rw [T_len]; exact small (by omega)), fun W hW => ?_⟩
    rw [nl_eq, ho.split]
    have sW := same_new hW (.lst (((rows.map lineM).map T).map V.str))
    have hW1 : (upd H W (.lst (((rows.map lineM).map T).map V.str))) W = some (.lst (((rows.map lineM).map T).map V.str)) := upd_same
    generalize upd H W (.lst (((rows.map lineM).map T).map V.str)) = H1 at sW hW1 ⊢
    refine ⟨W, rfl, ⟨_, .inl (.inl hW1)⟩, fun D hD => ?_⟩
    refine lc_it (walk_list (xs := ((rows.map lineM).map T).map V.str)) (fun i H2 => (∃ ts : List Addr, H2 D = some (.lst (ts.map V.ref)) ∧ Paired (fun t r => H2 t = some (.lst (strV r))) ts (rows.take i) ∧ ∀ t ∈ ts, t ≠ D) ∧ Same H1 H2) ?_ (fun i H2 _ h => .inl (.inl (h.2 _ _ hW1))) ?_ ?_
    · exact ⟨⟨[], upd_same, .nil, fun t h => (nomatch h)⟩, same_new hD _⟩
    · rintro i x H2 H2' hi ⟨⟨ts, e1, e2, e4⟩, e3⟩ ⟨rfl, hx⟩
      rw [List.map_map, List.map_map, List.getElem?_map] at hx
      obtain ⟨r, hmr, e⟩ := Option.map_eq_some_iff.mp hx
      subst e
      have hrm := List.mem_of_getElem? hmr
      have ll := ho.line hrm
      refine ⟨rfl, _, rfl, ⟨_, rfl⟩, _, _, rfl, rfl, (by decide +kernel), (by show (T (lineM r)).length + 2 ≤ _; rw [T_len]; exact small (by omega)), fun p hp => ?_⟩
      rw [sp_eq, show Txt.split (T (lineM r)) (T [32]) = r.map T from ho.row hrm]
      have sp := same_new hp (.lst ((r.map T).map V.str))
      have e1' := sp _ _ e1
      have npD : p ≠ D := fun z => by rw [z, e1] at hp; cases hp
      have lt : ts.length ≤ 90 := by
        rw [paired_len e2, List.length_take]
        omega
      refine ⟨_, e1', ?_, ⟨ts ++ [p], ?_, ?_, ?_⟩, ?_⟩
      · rw [List.length_map]
        exact Nat.lt_of_le_of_lt lt (by decide)
      · rw [upd_same, List.map_append]
        rfl
      · rw [take_snoc hmr]
        refine paired_app ?_ (.cons ?_ .nil)
        · have go : ∀ {ts' : List Addr} {l : List (List (List Nat))} {o : HO}, (∀ t ∈ ts', t ≠ D) → Paired (fun t r => H2' t = some (.lst (strV r))) ts' l → Paired (fun t r' => (upd (upd H2' p (.lst ((r.map T).map V.str))) D o) t = some (.lst (strV r'))) ts' l := by
            intro ts' l o hn hp'
            induction hp' with
            | nil => exact .nil
            | cons a t ih => exact .cons (by rw [upd_ne (hn _ (List.mem_cons_self ..))]; exact sp _ _ a) (ih fun x hx => hn x (List.mem_cons_of_mem _ hx))
          exact go e4 e2
        · rw [upd_ne npD, upd_same]
          rfl
      · intro t ht
        rcases List.mem_append.mp ht with ht | ht
        · exact e4 t ht
        · rw [List.mem_singleton.mp ht]; exact npD
      · exact fun c u hc => by
          rw [upd_ne (ne_of_none hc hD)]
          exact sp _ _ (e3 _ _ hc)
    rintro H2 ⟨⟨ts, e1, e2, e4⟩, e3⟩
    have le : (((rows.map lineM).map T).map V.str).length = rows.length := by rw [List.length_map, List.length_map, List.length_map]
    rw [le, List.take_length] at e2
    have LR : LRows H2 D rows := ⟨ts, e1, e2⟩
    have hne : ∀ r ∈ rows, r ≠ [] := fun r hr => (ho.r r hr).1
    have hlr : ∀ r ∈ rows, r.length ≤ 10000 := fun r hr => by have := (ho.r r hr).2.1; omega
    have s02 := sW.trans e3
    refine ⟨_, rfl, D, _, rfl, LR, hne, hl, fun hall H3 s3 => ?_, fun n hn hm d H' s' hd hx => qT n hn hm d H' (s02.trans s') (s02.free hd) hx⟩
    obtain ⟨qB1, qB2⟩ := qB hall
    obtain ⟨z, hz⟩ := row0 ho hall
    have hzm := List.mem_of_getElem? hz
    have LR3 := LR.same s3
    have s03 := s02.trans s3
    obtain ⟨ts3, d3, p3⟩ := id LR3
    obtain ⟨t0, ht0, hr0⟩ := paired_at' p3 hz
    have hzl := ((ho.r _ hzm).2.2 z (by simp)).1
    have x0 : (ts3.map V.ref)[0]? = some (.ref t0) := by rw [List.getElem?_map, ht0]; rfl
    refine ⟨_, rfl, D, _, 0, .ref t0, rfl, rfl, .inl (.inl d3), atI_nat (j := 0) x0, t0, _, 1, .str (T z), rfl, rfl, .inl (.inl hr0), atI_nat (j := 1) rfl, z, rfl, ?_⟩
    refine ⟨_, rfl, D, _, kwR, (by rw [show (V.str "rule") = V.str (T kwR) from congrArg V.str kwR_eq] <;> rfl), LR3, hne, by omega, hlr, fun R tsR H4 s4 hR pR => ?_⟩
    have hR : H4 R = some (.tup (tsR.map V.ref)) := hR
    have LR4 := LR3.same s4
    refine ⟨_, rfl, D, _, kwW, (by rw [show (V.str "word") = V.str (T kwW) from congrArg V.str kwW_eq] <;> rfl), LR4, hne, by omega, hlr, fun X tsX H5 s5 hX pX => ?_⟩
    have hX : H5 X = some (.tup (tsX.map V.ref)) := hX
    refine ⟨(by show 3 ≤ sizeLine; decide), fun b hb => ?_⟩
    have sb := same_new hb (.tup [.str (T (umE z)), .ref R, .ref X])
    have hb6 : (upd H5 b (.tup [.str (T (umE z)), .ref R, .ref X])) b = some (.tup [.str (T (umE z)), .ref R, .ref X]) := upd_same
    have hR6 := (s5.trans sb) _ _ hR
    have hX6 := sb _ _ hX
    have pR6 := pR.same (s5.trans sb)
    have pX6 := pX.same sb
    have s06 := ((s03.trans s4).trans s5).trans sb
    generalize upd H5 b (.tup [.str (T (umE z)), .ref R, .ref X]) = H6 at hb6 hR6 hX6 pR6 pX6 s06 ⊢
    have rf : ∀ p n, refB CB H6 E p n := fun p n => (qB1 p n).same s06
    refine ⟨_, rfl, .inr (.inr ⟨b, _, _, _, rfl, .inl (.inl hb6), .inl ⟨umE z, rfl, by have := um_len z; omega⟩, fun _ => rf _ _, fun L hL hlv => ?_⟩)⟩
    have eL := T_inj (V.str.inj hL)
    subst eL
    have hz45 : z ≠ [45] := fun e => by
      rw [e] at hlv
      revert hlv
      decide +kernel
    rw [show umE z = z from if_neg hz45] at hb6 ⊢
    obtain ⟨bsR, hbR⟩ : ∃ bs, Paired (RulR K H6 z) (tsR.map V.ref) bs := by
      refine all_views fun x hx => ?_
      obtain ⟨t, ht, rfl⟩ := List.mem_map.mp hx
      obtain ⟨i, hi⟩ := List.mem_iff_getElem?.mp ht
      obtain ⟨r, hr1, hr2⟩ := paired_at pR6 hi
      exact rulR_of hr2 (things_len ho _ r (List.mem_of_getElem? hr1))
    obtain ⟨bsX, hbX⟩ : ∃ bs, Paired (ExcR K H6 z) (tsX.map V.ref) bs := by
      refine all_views fun x hx => ?_
      obtain ⟨t, ht, rfl⟩ := List.mem_map.mp hx
      obtain ⟨i, hi⟩ := List.mem_iff_getElem?.mp ht
      obtain ⟨r, hr1, hr2⟩ := paired_at pX6 hi
      exact excR_of hr2 (things_len ho _ r (List.mem_of_getElem? hr1))
    refine ⟨some bsR, .inr ⟨R, _, bsR, rfl, .inl (.inl hR6), by rw [List.length_map, paired_len pR6]; exact things_count ho _, hbR, rfl⟩, fun _ _ _ => rf _ _, fun _ => ?_⟩
    refine ⟨some bsX, .inr ⟨X, _, bsX, rfl, .inl (.inl hX6), by rw [List.length_map, paired_len pX6]; exact things_count ho _, hbX, rfl⟩, fun _ _ _ => rf _ _, fun _ H7 s7 => ?_⟩
    refine qB2 b z H7 (s06.trans s7) hz ?_
    exact ⟨R, X, tsR, tsX, s7 _ _ hb6, ⟨s7 _ _ hR6, pR6.same s7⟩, s7 _ _ hX6, pX6.same s7⟩
end
end Say
namespace Say
open PySem PySem.Spec PyProof.Rows L2
theorem eqT {a b : List Nat} : decide (V.str (T a) = V.str (T b)) = decide (a = b) := decide_eq_decide.mpr ⟨fun z => T_inj (V.str.inj z), fun z => by rw [z]⟩
end Say
namespace Say
open PySem PySem.Spec PyProof.Rows L2
theorem Same.seqT {K : PySem.W.Frag} {H H' : Hp} {a : Addr} {xs : List V} (e : Same H H') (h : SqT K H a xs) : SqT K H' a xs := by
  rcases h with (h | ⟨o, h⟩) | h
  · exact .inl (.inl (e _ _ h))
  · exact .inl (.inr ⟨o, e _ _ h⟩)
  · exact .inr h
mutual
theorem dp_same {K : PySem.W.Frag} {H H' : Hp} (e : Same H H') : ∀ {v : V} {d : PyData}, Dp K H v d → Dp K H' v d
  | _, _, .non => .non
  | _, _, .bl b => .bl b
  | _, _, .int i => .int i
  | _, _, .str x => .str x
  | _, _, .lst h a => .lst (Same.seq e h) (dpa_same e a)
  | _, _, .tup h a => .tup (Same.seqT e h) (dpa_same e a)
theorem dpa_same {K : PySem.W.Frag} {H H' : Hp} (e : Same H H') : ∀ {vs : List V} {ds : List PyData}, DpAll K H vs ds → DpAll K H' vs ds
  | _, _, .nil => .nil
  | _, _, .cons h t => .cons (dp_same e h) (dpa_same e t)
end
theorem dpa_len {K : PySem.W.Frag} {H : Hp} : ∀ {vs : List V} {ds : List PyData}, DpAll K H vs ds → vs.length = ds.length
  | _, _, .nil => rfl
  | _, _, .cons _ t => by simp [dpa_len t]
theorem dpa_at {K : PySem.W.Frag} {H : Hp} : ∀ {vs : List V} {ds : List PyData}, DpAll K H vs ds → ∀ {i : Nat} {d : PyData}, ds[i]? = some d → ∃ v, vs[i]? = some v ∧ Dp K H v d
  | _, _, .nil, i, d, h => by cases h
  | _, _, .cons a t, 0, d, h => by
    cases h
    exact ⟨_, rfl, a⟩
  | _, _, .cons a t, i + 1, d, h => dpa_at t h
/-- data with no dicts, its lists not long -/
inductive Few : PyData → Prop
  | non : Few .none
  | bl (b : Bool) : Few (.bool b)
  | int (i : Int) : Few (.int i)
  | str (x : Str) : Few (.str x)
  | lst {ds : List PyData} : ds.length ≤ 1000 → (∀ d ∈ ds, Few d) → Few (.list ds)
  | tup {ds : List PyData} : ds.length ≤ 1000 → (∀ d ∈ ds, Few d) → Few (.tuple ds)
theorem depth_mem : ∀ {ds : List PyData} {d : PyData}, d ∈ ds → d.depth ≤ PyData.depthAll ds
  | x :: r, d, h => by
    unfold PyData.depthAll
    rcases List.mem_cons.mp h with rfl | h
    · exact Nat.le_max_left _ _
    · exact Nat.le_trans (depth_mem h) (Nat.le_max_right _ _)
end Say
namespace SrtT
open PySem PySem.Spec PyProof.Rows L2 SrtO
/-- by the first text, then by the second -/
def lexT (p q : Str × Str) : Bool := if p.1 = q.1 then decide (p.2.cps.toList < q.2.cps.toList) else decide (p.1.cps.toList < q.1.cps.toList)
theorem str_of {x y : Str} (h : x.cps.toList = y.cps.toList) : x = y := TL.ext_tl h
theorem lexT_no {p q : Str × Str} : lexT p q = false ↔ (q.1.cps.toList < p.1.cps.toList ∨ (p.1 = q.1 ∧ q.2.cps.toList ≤ p.2.cps.toList)) := by
  unfold lexT
  by_cases h : p.1 = q.1
  · rw [if_pos h]
    constructor
    · intro z
      exact .inr ⟨h, List.not_lt.mp (of_decide_eq_false z)⟩
    · rintro (z | ⟨_, z⟩)
      · rw [h] at z
        exact absurd z (List.lt_irrefl _)
      · exact decide_eq_false (List.not_lt.mpr z)
  · rw [if_neg h]
    constructor
    · intro z
      have le := List.not_lt.mp (of_decide_eq_false z)
      refine .inl ?_
      refine Decidable.byContradiction fun n => h (str_of (List.le_antisymm (List.not_lt.mp n) le))
    · rintro (z | ⟨e, _⟩)
      · exact decide_eq_false (List.not_lt.mpr (List.le_of_lt z))
      · exact absurd e h
theorem lexT_yes {p q : Str × Str} (h : lexT p q = true) : p.1.cps.toList < q.1.cps.toList ∨ (p.1 = q.1 ∧ p.2.cps.toList < q.2.cps.toList) := by
  unfold lexT at h
  by_cases e : p.1 = q.1
  · rw [if_pos e] at h
    exact .inr ⟨e, of_decide_eq_true h⟩
  · rw [if_neg e] at h
    exact .inl (of_decide_eq_true h)
theorem swoT {α : Type} (k : α → Str × Str) : Swo fun v u => lexT (k v) (k u) := by
  refine ⟨fun x y h => ?_, fun x y z h1 h2 => ?_⟩
  · refine lexT_no.mpr ?_
    rcases lexT_yes h with q | ⟨e, q⟩
    · exact .inl q
    · exact .inr ⟨e.symm, List.le_of_lt q⟩
  · refine lexT_no.mpr ?_
    rcases lexT_no.mp h1 with a | ⟨e, a⟩
    · rcases lexT_no.mp h2 with b | ⟨e', b⟩
      · exact .inl (List.lt_trans a b)
      · exact .inl (by rw [e']; exact a)
    · rcases lexT_no.mp h2 with b | ⟨e', b⟩
      · exact .inl (by rw [← e]; exact b)
      · exact .inr ⟨e'.trans e, List.le_trans a b⟩
/-- v is a tuple of the two texts -/
def IsTx (h : Heap) (v : Value) (x y : Str) : Prop := ∃ a o t u n, v = .ref a ∧ h.get? a = some o ∧ o.cls = .type "tuple" ∧ o.data = .seq #[.str x t, .str y u] n
theorem IsTx.keeps {h h' : Heap} {v : Value} {x y : Str} (p : IsTx h v x y) (k : ∀ b o, h.get? b = some o → o.cls = .type "tuple" → h'.get? b = some o) : IsTx h' v x y := by
  obtain ⟨a, o, t, u, n, e, obO, clC, dtD⟩ := p
  exact ⟨a, o, t, u, n, e, k _ _ obO clC, clC, dtD⟩
section
variable {prog : Program} {w : World} {A : Around} {E : Value → Shared → Prop} {s : Shared}
theorem tx_cmp {vs : List Value} {k : Value → Str × Str} (txP : ∀ v ∈ vs, IsTx s.heap v (k v).1 (k v).2) : Cmp prog w A s (tuples' true) (fun p => p.1 ∈ vs) (lt2 fun v u => lexT (k v) (k u)) := by
  intro p q hm hm'
  have h1 := txP _ hm
  have h2 := txP _ hm'
  show wpAny (model prog w) A (keyLt' (tuples' true) p.1 q.1) (fun r s' => s' = s ∧ r = lexT (k p.1) (k q.1)) (fun _ _ => False) s
  unfold lexT
  generalize (k p.1).1 = x at h1 ⊢
  generalize (k p.1).2 = y at h1 ⊢
  generalize (k q.1).1 = x' at h2 ⊢
  generalize (k q.1).2 = y' at h2 ⊢
  obtain ⟨a, o, t, u, n, e, obO, clC, dtD⟩ := h1
  obtain ⟨a', o', t', u', n', e', ho', hc', hd'⟩ := h2
  rw [e, e']
  refine PySem.W.kat_lt obO dtD ho' hd' ?_
  show PySem.W.KatLex prog w A true (decide (2 < 2)) _ [(.str x t, .str x' t'), (.str y u, .str y' u')] 0 s
  refine PySem.W.kat_cons (SeqAt.EqAt.str_str x t x' t' prog w _ _ ?_)
  refine PySem.W.kat_go (fun q1 => ?_) (fun q1 => ?_)
  · have ex : x = x' := by simpa using q1
    refine PySem.W.kat_yes (PySem.W.kat_cons (SeqAt.EqAt.str_str y u y' u' prog w _ _ ?_))
    refine PySem.W.kat_go (fun q2 => ?_) (fun q2 => ?_)
    · have ey : y = y' := by simpa using q2
      have q3 : (if x = x' then decide (y.cps.toList < y'.cps.toList) else decide (x.cps.toList < x'.cps.toList)) = false := by
        rw [if_pos ex, ey]
        exact decide_eq_false (List.lt_irrefl _)
      exact PySem.W.kat_yes (PySem.W.kat_nil ⟨rfl, q3.symm⟩)
    · have q3 : (if x = x' then decide (y.cps.toList < y'.cps.toList) else decide (x.cps.toList < x'.cps.toList)) = decide (y.cps.toList < y'.cps.toList) := if_pos ex
      refine PySem.W.kat_no (PySem.W.kat_one _ _ (PyProof.Rows.lt_str ?_))
      exact (show s = s ∧ decide (y.cps.toList < y'.cps.toList) = (if x = x' then decide (y.cps.toList < y'.cps.toList) else decide (x.cps.toList < x'.cps.toList)) from ⟨rfl, q3.symm⟩)
  · have ex : ¬ x = x' := by simpa using q1
    have q3 : (if x = x' then decide (y.cps.toList < y'.cps.toList) else decide (x.cps.toList < x'.cps.toList)) = decide (x.cps.toList < x'.cps.toList) := if_neg ex
    exact PySem.W.kat_no (oneLt_str ⟨rfl, q3.symm⟩)
theorem firsts_tx {h : Heap} : ∀ {vs : List Value}, (∀ v ∈ vs, ∃ x y, IsTx h v x y) → ∃ fs, PySem.W.KatTups h vs fs ∧ fs.length = vs.length ∧ ∀ f ∈ fs, ∃ x t, f = Value.str x t
  | [], _ => ⟨[], trivial, rfl, fun _ h => nomatch h⟩
  | v :: vs, txP => by
    obtain ⟨x, y, a, o, t, u, n, rfl, obO, clC, dtD⟩ := txP v (List.mem_cons_self ..)
    obtain ⟨fs, h1, h2, h3⟩ := firsts_tx (vs := vs) fun v inV => txP v (List.mem_cons_of_mem _ inV)
    refine ⟨.str x t :: fs, .cons obO clC dtD rfl h1, by simp [h2], fun f fresh0 => ?_⟩
    rcases List.mem_cons.mp fresh0 with rfl | fresh0
    · exact ⟨_, _, rfl⟩
    · exact h3 f fresh0
theorem tx_sortable {a : Addr} {vs : List Value} {k : Value → Str × Str} (h0 : 0 < vs.length) (txP : ∀ v ∈ vs, IsTx s.heap v (k v).1 (k v).2) (atA : ∀ o, s.heap.get? a = some o → o.cls ≠ .type "tuple") : SortableO prog w A s a vs fun v u => lexT (k v) (k u) := by
  intro h' keep
  have hp' : ∀ v ∈ vs, IsTx h' v (k v).1 (k v).2 := fun v hm => (txP v hm).keeps fun b o e c => keep b o (fun z => by subst z; exact atA o e c) e
  obtain ⟨fs, h1, h2, h3⟩ := firsts_tx fun v hm => ⟨_, _, hp' v hm⟩
  refine ⟨tuples' true, fun Q E isT => ?_, tx_cmp hp'⟩
  refine PySem.W.kat_kind (T := .type "str") h1 (by omega) (fun f hm => ?_) (by rfl) ?_
  · obtain ⟨x, t, rfl⟩ := h3 f hm
    exact PySem.W.Looks.now
  · have e : (Value.type "str" != Value.type "tuple") = true := by first | decide +kernel | rfl | decide
    rw [e]
    exact isT
end
/-- the texts of a tuple of two -/
def txOf (h : Heap) (v : Value) : Str × Str := match v with
  | .ref a => match h.get? a with
    | some o => match o.data with
      | .seq its _ => match its.toList with
        | [.str x _, .str y _] => (x, y)
        | _ => (Str.empty, Str.empty)
      | _ => (Str.empty, Str.empty)
    | none => (Str.empty, Str.empty)
  | _ => (Str.empty, Str.empty)
theorem IsTx.tx {h : Heap} {v : Value} {x y : Str} (p : IsTx h v x y) : txOf h v = (x, y) := by
  obtain ⟨a, o, t, u, n, rfl, obO, clC, dtD⟩ := p
  unfold txOf
  simp only [obO, dtD]
end SrtT
namespace Say
open PySem PySem.Spec PyProof.Rows L2 L2.DX
section
variable {X : Cx}
/-- d.items() of a dict with int and text keys -/
def rItemsK : V → List V → Hp → VK → Prop := fun x xs H Q => ∃ (a : Addr) (kvs : List (Key × V)), x = .ref a ∧ xs = [] ∧ H a = some (.dK kvs) ∧ ∀ p, H p = none → Q (.ref p) (upd H p (itemsO p a))
theorem mt_itemsK : MtR X "dict.items" rItemsK := by
  intro pn s σ H x xs v args Q I rx rxs h
  obtain ⟨a, kvs, rfl, rfl, atA, q⟩ := h
  cases rx
  cases rxs
  obtain ⟨szT, dtD, vs, kv, o, es, ep, obO, atI0, hdat, _⟩ := (show ObjOk X.prog X.w H s.heap a (.dK kvs) from I.hok a _ atA)
  refine DT.callItems (es := es) (ep := ep) dtD ⟨o, obO, atI0, hdat⟩ ?_
  have fresh0 : H s.heap.objs.size = none := I.hok.fresh (Nat.le_refl _)
  exact ⟨.ref s.heap.objs.size, upd H s.heap.objs.size (itemsO s.heap.objs.size a), I.laid (t' := s.toks) (fun b u e => Heap.get?_push_of_some _ e) (Nat.le_refl _) (itemsO_ok (Heap.get?_push_size _ rfl)), rfl, q _ fresh0⟩
abbrev entS (e : Str × Str) : Key × V := (Sum.inr e.1, V.str e.2)
/-- sorted(d.items()), keys and values texts -/
def rSortTx : List V → Hp → VK → Prop := fun vs H Q => ∃ (p a : Addr) (es : List (Str × Str)), vs = [.ref p] ∧ H p = some (itemsO p a) ∧ H a = some (.dK (es.map entS)) ∧ es.length ≤ 1000 ∧
  ∀ (H' : Hp) (l : Addr) (ps : List (Addr × Str × Str)), (∀ b o, H b = some o → H' b = some o) → (ps.map (·.2)).Perm es → (ps.map (·.2)).Pairwise (fun e f => SrtT.lexT f e = false) → H l = none → H' l = some (.lst (ps.map fun z => V.ref z.1)) →
    (∀ z ∈ ps, H' z.1 = some (.tup [.str z.2.1, .str z.2.2])) → Q (.ref l) H'
theorem key_txt {x : Str} {v : Value} (h : keyIs (Sum.inr x : Key) v = true) : ∃ t, v = .str x t := by
  rcases keyIs_shape h with ⟨i, t, e, rfl⟩ | ⟨y, t, e, rfl⟩
  · cases e
  · cases e
    exact ⟨t, rfl⟩
theorem ent_at {P : Program} {w : World} : ∀ {l : List DictEntry} {vs : List (Key × Value)} {ks : List (Str × Str)}, Pairs (mixKind P w) l vs → KV (ks.map entS) vs → Paired (fun (e : DictEntry) (k : Str × Str) => (∃ t, e.key = .str k.1 t) ∧ ∃ u, e.val = .str k.2 u) l ks
  | [], _, ks, .nil, kv => by
    cases ks with
    | nil => exact .nil
    | cons k r => cases kv
  | e :: l, _, ks, .cons h1 h2 h3, kv => by
    cases ks with
    | nil => cases kv
    | cons k r =>
      cases kv with
      | cons g1 g2 =>
        refine .cons ⟨?_, ?_⟩ (ent_at h3 g2)
        · obtain ⟨g3, g4⟩ := g1
          rw [← g3] at h1
          exact key_txt h1
        · rw [h2]
          exact g1.2
def adr : Value → Addr
  | .ref a => a
  | _ => 0
theorem cr_sortedTx (clC : X.calm = true) : CallR X (.builtin "sorted") rSortTx := by
  intro pn s σ H xs args Q I r h
  obtain ⟨p, a, ks, rfl, txP, atA, h64, q⟩ := h
  obtain rfl := Vals.ref1 r
  have vw : s.heap.IsItemsView p a := (show ObjOk X.prog X.w H s.heap p (itemsO p a) from I.hok p _ txP).1
  obtain ⟨szT, dtD, vs, kv, o, es, ep, obO, atI0, hdat, hKo, hPs, hn⟩ := (show ObjOk X.prog X.w H s.heap a (.dK (ks.map entS)) from I.hok a _ atA)
  have ents := ent_at hPs kv
  have l0 : es.size = ks.length := by rw [← Array.length_toList]; exact paired_len ents
  have noH : X.A.handled = none := I.ok.hd clC
  refine DT.sortedI (es := es) (ep := ep) noH vw ⟨o, obO, atI0, hdat⟩ (by rw [sizeLine_eq]; omega) fun h' tkn adrs kpT ltN lnT mdG => ?_
  have lenA : adrs.length = ks.length := by omega
  have nodupA : adrs.Nodup := List.Pairwise.imp (fun h => Nat.ne_of_lt h) mdG.rise
  have prs : ∀ (j : Nat) (b : Addr), adrs[j]? = some b → ∃ (e : Str × Str) (t u : Tok), ks[j]? = some e ∧ h'.get? b = some { cls := .type "tuple", data := .seq #[Value.str e.1 t, Value.str e.2 u] } := by
    intro j b atJ
    obtain ⟨en', hEn, gW⟩ := mdG.pairs j b atJ
    rw [← Array.getElem?_toList] at hEn
    obtain ⟨e, q1, ⟨t, q2⟩, ⟨u, q3⟩⟩ := paired_at ents hEn
    exact ⟨e, t, u, q1, by rw [gW, q2, q3]⟩
  have atL : (h'.push { cls := .type "list", data := .seq (adrs.map Value.ref).toArray }).get? h'.objs.size = some (seqObj "list" (adrs.map Value.ref).toArray 0) := Heap.get?_push_size _ rfl
  have kpS : ∀ b o, s.heap.get? b = some o → (h'.push { cls := .type "list", data := .seq (adrs.map Value.ref).toArray }).get? b = some o := fun b o e => Heap.get?_push_of_some _ (kpT b o e)
  have neL : ∀ b o, h'.get? b = some o → b ≠ h'.objs.size := fun b o e => Nat.ne_of_lt (Heap.lt_size e)
  generalize hh2 : h'.push { cls := .type "list", data := .seq (adrs.map Value.ref).toArray } = h2 at atL kpS ⊢
  have kpM : ∀ b o, h'.get? b = some o → h2.get? b = some o := fun b o e => by rw [← hh2]; exact Heap.get?_push_of_some _ e
  have pin : ∀ (j : Nat) (b : Addr) (e : Str × Str), adrs[j]? = some b → ks[j]? = some e → SrtT.IsTx h2 (.ref b) e.1 e.2 := by
    intro j b e atJ hEn
    obtain ⟨e', t, u, he', gW⟩ := prs j b atJ
    cases he'.symm.trans hEn
    exact ⟨b, _, t, u, 0, rfl, kpM _ _ gW, rfl, rfl⟩
  have allTx : ∀ v ∈ adrs.map Value.ref, SrtT.IsTx h2 v (SrtT.txOf h2 v).1 (SrtT.txOf h2 v).2 := by
    intro v hv'
    obtain ⟨b, hb, rfl⟩ := List.mem_map.mp hv'
    obtain ⟨j, atJ⟩ := List.mem_iff_getElem?.mp hb
    obtain ⟨e, t, u, hEn, _⟩ := prs j b atJ
    have := pin j b e atJ hEn
    rw [this.tx]
    exact this
  have mapTx : (adrs.map Value.ref).map (SrtT.txOf h2) = ks := by
    refine List.ext_getElem? fun j => ?_
    rw [List.getElem?_map, List.getElem?_map]
    cases atJ : adrs[j]? with
    | none =>
      have := List.getElem?_eq_none_iff.mp atJ
      rw [List.getElem?_eq_none (by omega)]
      rfl
    | some b =>
      obtain ⟨e, t, u, hEn, _⟩ := prs j b atJ
      rw [hEn]
      show some (SrtT.txOf h2 (.ref b)) = some e
      rw [(pin j b e atJ hEn).tx]
  refine wpAny_call_entry PyProof.Rows.slot_list_sort ⟨_, atL, rfl⟩ PyProof.Rows.entry_list_sort
    (SrtO.list_sort_ord (s := { s with heap := h2, toks := tkn }) (SrtT.swoT (SrtT.txOf h2)) atL (by rw [List.length_map, sizeLine_eq]; omega) (fun h2' => SrtT.tx_sortable (by omega) allTx fun o e => ?_) fun out o1 o2 => ⟨.none, rfl, ?_⟩) (PyProof.Rows.args_list_sort _)
  · have e : h2.get? h'.objs.size = some o := e
    rw [atL] at e
    cases e
    intro c
    exact absurd (Value.type.inj c) (by decide)
  · show EP X pn σ Q (.ref h'.objs.size) { s with heap := sortedHeap h2 h'.objs.size (adrs.map Value.ref) out.toArray, toks := tkn }
    have hrf : ∀ v ∈ out, v = .ref (adr v) := fun v inV => by
      obtain ⟨b, _, rfl⟩ := List.mem_map.mp (o2.perm.mem_iff.mp inV)
      rfl
    have kpF : ∀ b o, b ≠ h'.objs.size → h2.get? b = some o → (sortedHeap h2 h'.objs.size (adrs.map Value.ref) out.toArray).get? b = some o := fun b o hb e => (PyProof.Rows.sortedHeap_old hb (Heap.lt_size e)).trans e
    have kpAll : ∀ b o, s.heap.get? b = some o → (sortedHeap h2 h'.objs.size (adrs.map Value.ref) out.toArray).get? b = some o := fun b o e => kpF b o (neL _ _ (kpT b o e)) (kpS b o e)
    obtain ⟨sdF, atF⟩ := PyProof.Rows.sortedHeap_at (vs := adrs.map Value.ref) (out := out.toArray) atL
    have I1 : Inv X pn σ H { s with heap := sortedHeap h2 h'.objs.size (adrs.map Value.ref) out.toArray, toks := tkn } := I.kept (t' := tkn) kpAll
    have noL : H h'.objs.size = none := I.hok.fresh (Nat.le_of_lt ltN)
    have prm : ((out.map fun v => (adr v, SrtT.txOf h2 v)).map (·.2)).Perm ks := by
      have e := o2.perm.map (SrtT.txOf h2)
      rw [mapTx] at e
      rw [List.map_map]
      exact e
    have srtd0 : ((out.map fun v => (adr v, SrtT.txOf h2 v)).map (·.2)).Pairwise (fun e f => SrtT.lexT f e = false) := by
      rw [List.map_map, List.pairwise_map]
      exact o1
    have len0 : ((out.map fun v => (adr v, SrtT.txOf h2 v)).map fun z => V.ref z.1).length ≤ sizeLine := by
      have e := prm.length_eq
      rw [List.length_map] at e
      rw [List.length_map, sizeLine_eq]
      omega
    have rel : ∀ l : List Value, (∀ v ∈ l, v = .ref (adr v)) → Vals ((l.map fun v => (adr v, SrtT.txOf h2 v)).map fun z => V.ref z.1) l := by
      intro l
      induction l with
      | nil => intro _; exact .nil
      | cons v l ih =>
        intro inV
        refine .cons ?_ (ih fun u getU => inV u (List.mem_cons_of_mem _ getU))
        have := inV v (List.mem_cons_self ..)
        exact this
    have I2 : Inv X pn σ (upd H h'.objs.size (.lst ((out.map fun v => (adr v, SrtT.txOf h2 v)).map fun z => V.ref z.1))) { s with heap := sortedHeap h2 h'.objs.size (adrs.map Value.ref) out.toArray, toks := tkn } :=
      I1.take (h' := sortedHeap h2 h'.objs.size (adrs.map Value.ref) out.toArray) (t' := tkn) (fun b ob _ e => e) (I.fpOk (Nat.le_of_lt ltN) noL) ⟨len0, out, sdF, rel out hrf, atF⟩
    obtain ⟨H2, I3, g, tps⟩ := takeT (P := fun b vs => ∃ (j : Nat) (e : Str × Str), adrs[j]? = some b ∧ ks[j]? = some e ∧ vs = [.str e.1, .str e.2]) I adrs _ I2 nodupA fun b hb => by
      obtain ⟨j, atJ⟩ := List.mem_iff_getElem?.mp hb
      obtain ⟨e, t, u, hEn, gW⟩ := prs j b atJ
      have geB : s.heap.objs.size ≤ b := Nat.le_of_lt (mdG.above b hb)
      refine ⟨geB, ?_, [.str e.1, .str e.2], ⟨j, e, atJ, hEn, rfl⟩, fun H3 => ⟨(by rw [sizeLine_eq]; show 2 ≤ 16777216; omega), [Value.str e.1 t, Value.str e.2 u], .cons ⟨t, rfl⟩ (.cons ⟨u, rfl⟩ .nil), ⟨_, kpF _ _ (neL _ _ gW) (kpM _ _ gW), rfl, 0, rfl⟩⟩⟩
      rw [upd_ne (neL _ _ gW)]
      exact I.hok.fresh geB
    have grow : ∀ b o, H b = some o → H2 b = some o := fun b o e => g b o (by rw [upd_ne (ne_of_none e noL)]; exact e)
    refine ⟨.ref h'.objs.size, H2, I3, rfl, q H2 h'.objs.size _ grow prm srtd0 noL (g _ _ upd_same) fun z' hz' => ?_⟩
    obtain ⟨v, inV, rfl⟩ := List.mem_map.mp hz'
    obtain ⟨b, hb, e⟩ := List.mem_map.mp (o2.perm.mem_iff.mp inV)
    subst e
    obtain ⟨vs', ⟨j, e, j1, j2, ev⟩, hH⟩ := tps b hb
    show H2 b = some (.tup [.str (SrtT.txOf h2 (.ref b)).1, .str (SrtT.txOf h2 (.ref b)).2])
    rw [(pin j b e j1 j2).tx, hH, ev]
end
end Say
namespace Say
open PySem PySem.Spec PyProof.Rows L2
/-! ### the exceptions of a dict -/
def ent (e : Exc) : Key × V := (Sum.inr (T e.1), V.str (T e.2))
def putE (es : List Exc) (wd so : List Nat) : List Exc := if (es.any fun e => decide (e.1 = wd)) = true then es.map (fun e => if e.1 = wd then (e.1, so) else e) else es ++ [(wd, so)]
theorem key_eq {a b : List Nat} : ((Sum.inr (T a) : Key) = Sum.inr (T b)) ↔ a = b := ⟨fun h => T_inj (Sum.inr.inj h), fun h => by rw [h]⟩
theorem any_ent (wd : List Nat) : ∀ es : List Exc, ((es.map ent).any fun kv => decide (kv.1 = (Sum.inr (T wd) : Key))) = es.any fun e => decide (e.1 = wd)
  | [] => rfl
  | e :: r => by
    rw [List.map_cons, List.any_cons, List.any_cons, any_ent wd r]
    congr 1
    exact decide_eq_decide.mpr key_eq
theorem put_ent (es : List Exc) (wd so : List Nat) : putK (es.map ent) (Sum.inr (T wd) : Key) (V.str (T so)) = (putE es wd so).map ent := by
  unfold putK putE
  rw [any_ent]
  by_cases c : (es.any fun e => decide (e.1 = wd)) = true
  · rw [if_pos c, if_pos c, List.map_map, List.map_map]
    refine List.map_congr_left fun e _ => ?_
    show (if (ent e).1 = (Sum.inr (T wd) : Key) then ((ent e).1, V.str (T so)) else ent e) = ent (if e.1 = wd then (e.1, so) else e)
    by_cases h : e.1 = wd
    · rw [if_pos h, if_pos (show (ent e).1 = (Sum.inr (T wd) : Key) from key_eq.mpr h)]
      rfl
    · rw [if_neg h, if_neg (show ¬ (ent e).1 = (Sum.inr (T wd) : Key) from fun z => h (key_eq.mp z))]
  · rw [if_neg c, if_neg c, List.map_append]
    rfl
theorem putE_len (es : List Exc) (wd so : List Nat) : (putE es wd so).length ≤ es.length + 1 := by
  unfold putE
  split
  · rw [List.length_map]; omega
  · rw [List.length_append]; exact Nat.le_refl _
theorem putE_ok {L : List Nat} {es : List Exc} {wd so : List Nat} (h : ∀ e ∈ es, ExcOk L e) (h1 : ExcOk L (wd, so)) : ∀ e ∈ putE es wd so, ExcOk L e := by
  intro e he
  unfold putE at he
  split at he
  · obtain ⟨e', he', rfl⟩ := List.mem_map.mp he
    by_cases c : e'.1 = wd
    · rw [if_pos c, c]
      exact h1
    · rw [if_neg c]
      exact h e' he'
  · rcases List.mem_append.mp he with he | he
    · exact h e he
    · rw [List.mem_singleton.mp he]
      exact h1
theorem putE_nd {es : List Exc} {wd so : List Nat} (h : (es.map (·.1)).Nodup) : ((putE es wd so).map (·.1)).Nodup := by
  unfold putE
  split
  · rename_i c
    rw [List.map_map]
    have : es.map ((·.1) ∘ fun e : Exc => if e.1 = wd then (e.1, so) else e) = es.map (·.1) := List.map_congr_left fun e _ => by
      show (if e.1 = wd then (e.1, so) else e).1 = e.1
      split <;> rfl
    rw [this]
    exact h
  · rename_i c
    rw [List.map_append]
    refine List.nodup_append.mpr ⟨h, by simp, fun a ha b hb => ?_⟩
    intro z
    refine c (List.any_eq_true.mpr ?_)
    obtain ⟨e, he, rfl⟩ := List.mem_map.mp ha
    have hb : b = wd := by simpa using hb
    exact ⟨e, he, decide_eq_true (by rw [← hb]; exact z)⟩
/-- by its word there is one exception at most -/
theorem one_of {es : List Exc} (h : (es.map (·.1)).Nodup) {e f : Exc} (he : e ∈ es) (hf : f ∈ es) (hw : e.1 = f.1) : e = f := by
  obtain ⟨i, hi⟩ := List.mem_iff_getElem?.mp he
  obtain ⟨j, hj⟩ := List.mem_iff_getElem?.mp hf
  have e1 : (es.map (·.1))[i]? = some e.1 := by rw [List.getElem?_map, hi]; rfl
  have e2 : (es.map (·.1))[j]? = some e.1 := by rw [List.getElem?_map, hj, hw]; rfl
  have := nd_ix h e1 e2
  subst this
  exact Option.some.inj (hi.symm.trans hj)
theorem valV_ent {es : List Exc} (h : (es.map (·.1)).Nodup) {e : Exc} (he : e ∈ es) : valV (es.map ent) (Sum.inr (T e.1) : Key) = some (V.str (T e.2)) := by
  unfold valV
  cases hf : (es.map ent).find? fun kv => decide (kv.1 = (Sum.inr (T e.1) : Key)) with
  | none =>
    have := List.find?_eq_none.mp hf (ent e) (List.mem_map.mpr ⟨e, he, rfl⟩)
    exact absurd (decide_eq_true rfl) this
  | some kv =>
    have h1 := List.find?_some hf
    obtain ⟨f, hfm, rfl⟩ := List.mem_map.mp (List.mem_of_find?_eq_some hf)
    have h2 : f.1 = e.1 := key_eq.mp (of_decide_eq_true h1)
    rw [one_of h hfm he h2]
    rfl
theorem find_ent {es : List Exc} (h : (es.map (·.1)).Nodup) {e : Exc} (he : e ∈ es) : es.find? (fun f => decide (f.1 = e.1)) = some e := by
  cases hf : es.find? fun f => decide (f.1 = e.1) with
  | none => exact absurd (decide_eq_true rfl) (List.find?_eq_none.mp hf e he)
  | some f => rw [one_of h (List.mem_of_find?_eq_some hf) he (of_decide_eq_true (List.find?_some (p := fun f : Exc => decide (f.1 = e.1)) hf))]
/-! ### sorted -/
theorem uniq_sorted {α : Type} {r : α → α → Prop} (as : ∀ a b, r a b → ¬ r b a) : ∀ {l m : List α}, l.Perm m → l.Pairwise r → m.Pairwise r → l = m
  | [], m, p, _, _ => (List.Perm.eq_nil p.symm).symm
  | a :: l, [], p, _, _ => absurd p.length_eq (by simp)
  | a :: l, b :: m, p, h1, h2 => by
    have ha := p.mem_iff.mp (List.mem_cons_self (a := a) (l := l))
    have hb := p.mem_iff.mpr (List.mem_cons_self (a := b) (l := m))
    have e : a = b := by
      rcases List.mem_cons.mp ha with e | ha
      · exact e
      · rcases List.mem_cons.mp hb with e | hb
        · exact e.symm
        · exact absurd ((List.pairwise_cons.mp h1).1 b hb) (as _ _ ((List.pairwise_cons.mp h2).1 a ha))
    subst e
    rw [uniq_sorted as p.cons_inv (List.pairwise_cons.mp h1).2 (List.pairwise_cons.mp h2).2]
theorem lt_asym (a b : List Nat) (h : a < b) : ¬ b < a := List.lt_asymm h
theorem le_of_ltCps {a b : List Nat} (h : ltCps b a = false) : a ≤ b := by
  rw [ltCps_eq] at h
  exact List.not_lt.mp (of_decide_eq_false h)
theorem rising_pw : ∀ (l : List Str) (p : Str), risingS p l = true → (p :: l).Pairwise fun a b => a.cps.toList ≤ b.cps.toList
  | [], p, _ => List.pairwise_singleton _ _
  | x :: r, p, h => by
    have h : (!ltCps x.cps.toList p.cps.toList && risingS x r) = true := h
    rw [Bool.and_eq_true] at h
    have ih := rising_pw r x h.2
    have px : p.cps.toList ≤ x.cps.toList := le_of_ltCps (by simpa using h.1)
    refine List.pairwise_cons.mpr ⟨fun y hy => ?_, ih⟩
    rcases List.mem_cons.mp hy with rfl | hy
    · exact px
    · exact List.le_trans px ((List.pairwise_cons.mp ih).1 y hy)
theorem sortedS_pw : ∀ {l : List Str}, sortedS l = true → l.Pairwise fun a b => a.cps.toList ≤ b.cps.toList
  | [], _ => .nil
  | x :: r, h => rising_pw r x h
def wordsS (es : List Exc) : List Str := es.map fun e => T e.1
theorem strict_words {es : List Exc} (up : es.Pairwise fun e f => e.1 < f.1) : (wordsS es).Pairwise fun a b => a.cps.toList < b.cps.toList := by
  unfold wordsS
  rw [List.pairwise_map]
  exact up
theorem strict_of {l : List Str} (h : l.Pairwise fun a b => a.cps.toList ≤ b.cps.toList) (nd : l.Nodup) : l.Pairwise fun a b => a.cps.toList < b.cps.toList := by
  refine List.Pairwise.imp_of_mem (fun {a b} _ _ h => ?_) (List.Pairwise.and h nd)
  obtain ⟨h1, h2⟩ := h
  refine Decidable.byContradiction fun n => h2 (TL.ext_tl (List.le_antisymm h1 (List.not_lt.mp n)))
theorem nd_strict {l : List Str} (h : l.Pairwise fun a b => a.cps.toList < b.cps.toList) : l.Nodup := by
  refine List.Pairwise.imp (fun {a b} h => ?_) h
  intro z
  rw [z] at h
  exact List.lt_irrefl _ h
theorem sorted_keys {es es' : List Exc} {ys : List Str} (hp : es'.Perm es) (up : es'.Pairwise fun e f => e.1 < f.1) (hy : ys.Perm (wordsS es)) (hs : sortedS ys = true) : ys = wordsS es' := by
  have s' := strict_words up
  have p2 : ys.Perm (wordsS es') := hy.trans (hp.symm.map fun e : Exc => T e.1)
  exact uniq_sorted (r := fun a b : Str => a.cps.toList < b.cps.toList) (fun a b h => lt_asym _ _ h) p2 (strict_of (sortedS_pw hs) (p2.nodup_iff.mpr (nd_strict s'))) s'
def tt (e : Exc) : Str × Str := (T e.1, T e.2)
def bk (z : Str × Str) : Exc := (z.1.cps.toList, z.2.cps.toList)
theorem tt_bk (z : Str × Str) : tt (bk z) = z := by
  show (T z.1.cps.toList, T z.2.cps.toList) = z
  rw [T_list, T_list]
theorem bk_tt (e : Exc) : bk (tt e) = e := rfl
theorem sort_exc {es : List Exc} (nd : (es.map (·.1)).Nodup) {qs : List (Str × Str)} (hp : qs.Perm (es.map tt)) (hs : qs.Pairwise fun e f => SrtT.lexT f e = false) :
    qs = (qs.map bk).map tt ∧ (qs.map bk).Perm es ∧ (qs.map bk).Pairwise fun e f => e.1 < f.1 := by
  have e1 : qs = (qs.map bk).map tt := by
    rw [List.map_map]
    conv => lhs; rw [← List.map_id qs]
    exact List.map_congr_left fun z _ => (tt_bk z).symm
  have e2 : (qs.map bk).Perm es := by
    have := hp.map bk
    rw [List.map_map] at this
    have e3 : es.map (bk ∘ tt) = es := by
      conv => rhs; rw [← List.map_id es]
      exact List.map_congr_left fun e _ => rfl
    rwa [e3] at this
  refine ⟨e1, e2, ?_⟩
  have nd2 : ((qs.map bk).map (·.1)).Nodup := (e2.map (·.1)).nodup_iff.mpr nd
  rw [List.pairwise_map]
  have nd3 : qs.Pairwise fun a b => ¬ (bk a).1 = (bk b).1 := by
    have : ((qs.map bk).map (·.1)).Pairwise (· ≠ ·) := nd2
    rw [List.pairwise_map, List.pairwise_map] at this
    exact this
  refine List.Pairwise.imp_of_mem (fun {a b} _ _ h => ?_) (List.Pairwise.and hs nd3)
  obtain ⟨h1, h2⟩ := h
  rcases SrtT.lexT_no.mp h1 with q | ⟨q, _⟩
  · exact q
  · exact absurd (congrArg (fun z : Str => z.cps.toList) q.symm) h2
end Say
namespace Say
open PySem PySem.Spec PyProof.Rows L2
theorem paired_map {α β γ : Type} {F : α → β → Prop} {f : γ → α} {g : γ → β} : ∀ {l : List γ}, (∀ z ∈ l, F (f z) (g z)) → Paired F (l.map f) (l.map g)
  | [], _ => .nil
  | z :: l, h => .cons (h z (List.mem_cons_self ..)) (paired_map fun y hy => h y (List.mem_cons_of_mem _ hy))
theorem strOk_T {l : List Nat} (h : ∀ c ∈ l, c < 1114112) : PyData.strOk (T l) = true := by
  show l.toArray.all (· < 0x110000) = true
  rw [List.all_toArray, List.all_eq_true]
  intro c hc
  exact decide_eq_true (h c hc)
theorem shaped_two {x y : PyData} (hx : x.canLay0 = true) (hy : y.canLay0 = true) (dx : x.depth = 0) (dy : y.depth = 0) : SeqAt.shaped (.tuple [x, y]) = true := by
  unfold SeqAt.shaped
  rw [Bool.and_eq_true]
  refine ⟨?_, ?_⟩
  · show PyData.canLayAll0 [x, y] = true
    simp [PyData.canLayAll0, hx, hy]
  · refine decide_eq_true ?_
    show PyData.depthAll [x, y] + 1 ≤ 64
    simp [PyData.depthAll, dx, dy]
/-- the row stays where all but a dict does -/
theorem RowAt.stpD {K : PySem.W.Frag} {H H' : Hp} {r a F : Addr} {ns : List Int} {kvs : List (Key × V)} (R : RowAt K H r a ns) (hF : H F = some (.dK kvs)) (e : Stp F H H') : RowAt K H' r a ns := by
  obtain ⟨⟨i', c', m', q', b'⟩, sc, le⟩ := R
  refine ⟨⟨i', c', m', e _ _ q' (ne_of q' hF (by intro z; cases z)), b'⟩, ?_, le⟩
  rcases sc with (sc | ⟨o, sc⟩) | sc
  · exact .inl (.inl (e _ _ sc (ne_of sc hF (by intro z; cases z))))
  · exact .inl (.inr ⟨o, e _ _ sc (ne_of sc hF (by intro z; cases z))⟩)
  · exact .inr sc
end Say
namespace Say
open PySem PySem.Spec PyProof.Rows L2
/-! ### lists of texts as data -/
theorem dp_texts {K : PySem.W.Frag} {H : Hp} : ∀ ws : List (List Nat), DpAll K H (strV ws) (ws.map fun w => .str (T w))
  | [] => .nil
  | w :: r => .cons (.str _) (dp_texts r)
theorem lay_texts : ∀ {ws : List (List Nat)}, (∀ w ∈ ws, ∀ c ∈ w, c < 1114112) → PyData.canLayAll0 (ws.map fun w => PyData.str (T w)) = true ∧ PyData.depthAll (ws.map fun w => PyData.str (T w)) = 0
  | [], _ => ⟨rfl, rfl⟩
  | w :: r, h => by
    obtain ⟨h1, h2⟩ := lay_texts (ws := r) fun x hx => h x (List.mem_cons_of_mem _ hx)
    constructor
    · show (PyData.strOk (T w) && PyData.canLayAll0 (r.map fun w => PyData.str (T w))) = true
      rw [h1, strOk_T (h w (List.mem_cons_self ..))]
      rfl
    · show max 0 (PyData.depthAll (r.map fun w => PyData.str (T w))) = 0
      rw [h2]
      rfl
theorem shaped_texts {ws : List (List Nat)} (h : ∀ w ∈ ws, ∀ c ∈ w, c < 1114112) : SeqAt.shaped (.list (ws.map fun w => PyData.str (T w))) = true := by
  obtain ⟨h1, h2⟩ := lay_texts h
  unfold SeqAt.shaped
  rw [Bool.and_eq_true]
  refine ⟨h1, decide_eq_true ?_⟩
  show PyData.depthAll (ws.map fun w => PyData.str (T w)) + 1 ≤ 64
  omega
theorem eqv_nil (ws : List (List Nat)) : PyData.eqv (.list (ws.map fun w => PyData.str (T w))) (.list []) = decide (ws = []) := by
  cases ws with
  | nil => rfl
  | cons w r => rfl
end Say
namespace Say
open PySem PySem.Spec PyProof.Rows L2
/-! ### rows of words, spoilt -/
def RowQ (n : Nat) (r : List (List Nat)) : Prop := r.length ≤ 5 + n ∧ ∀ z ∈ r, z.length ≤ 40 ∧ ∀ c ∈ z, c ≠ 32 ∧ c ≠ 10 ∧ c < 256
theorem RowQ.mono {n m : Nat} {r : List (List Nat)} (h : RowQ n r) (le : n ≤ m) : RowQ m r := ⟨by have := h.1; omega, h.2⟩
def RA (n : Nat) (H : Hp) (x : V) : Prop := ∃ (t : Addr) (r : List (List Nat)), x = .ref t ∧ H t = some (.lst (strV r)) ∧ RowQ n r
theorem RA.mono {n m : Nat} {H : Hp} {x : V} (h : RA n H x) (le : n ≤ m) : RA m H x := by
  obtain ⟨t, r, e, h1, h2⟩ := h
  exact ⟨t, r, e, h1, h2.mono le⟩
theorem RA.same {n : Nat} {H H' : Hp} {x : V} (h : RA n H x) (s : Same H H') : RA n H' x := by
  obtain ⟨t, r, e, h1, h2⟩ := h
  exact ⟨t, r, e, s _ _ h1, h2⟩
theorem str_ne_row {K : PySem.W.Frag} {H : Hp} {r a t : Addr} {ns : List Int} {z : List (List Nat)} (R : RowAt K H r a ns) (h : H t = some (.lst (strV z))) : t ≠ r := fun e => by
  obtain ⟨⟨i, c, m, q, _⟩, _⟩ := R
  rw [e, q] at h
  have := HO.lst.inj (Option.some.inj h)
  cases z with
  | nil => cases this
  | cons x y => cases this
theorem ra_ne_row {K : PySem.W.Frag} {H : Hp} {r a t : Addr} {ns : List Int} {xs : List V} {n : Nat} (R : RowAt K H r a ns) (h : H t = some (.lst xs)) (q : ∀ x ∈ xs, RA n H x) : t ≠ r := fun e => by
  obtain ⟨⟨i, c, m, qq, _⟩, _⟩ := R
  rw [e, qq] at h
  have := HO.lst.inj (Option.some.inj h)
  obtain ⟨u, _, z, _⟩ := q (.int i) (by rw [← this]; simp)
  cases z
theorem RA.stp {K : PySem.W.Frag} {H H' : Hp} {r a : Addr} {ns : List Int} {n : Nat} {x : V} (R : RowAt K H r a ns) (h : RA n H x) (s : Stp r H H') : RA n H' x := by
  obtain ⟨t, z, e, h1, h2⟩ := h
  exact ⟨t, z, e, s _ _ h1 (str_ne_row R h1), h2⟩
def litW : List (List Nat) := [[108, 101, 116, 116, 101, 114, 115], [114, 117, 108, 101], [119, 111, 114, 100], [45], [97], [97, 98], [97, 98, 99], [65], [65, 66], [35], [35, 97], [], [87, 111, 114, 100], [98, 97], [90], [97, 98, 99, 100], [48]]
theorem litW_eq : ([.str "letters", .str "rule", .str "word", .str "-", .str "a", .str "ab", .str "abc", .str "A", .str "AB", .str "#", .str "#a", .str "", .str "Word", .str "ba", .str "Z", .str "abcd", .str "0"] : List V) = strV litW := by decide +kernel
theorem litW_ok : ∀ z ∈ litW, z.length ≤ 40 ∧ ∀ c ∈ z, c ≠ 32 ∧ c ≠ 10 ∧ c < 256 := by decide +kernel
structure SpS (K : PySem.W.Frag) (r a : Addr) (ns : List Int) (W D : Addr) (n : Nat) (xs : List V) (H : Hp) : Prop where
  R : RowAt K H r a ns
  w : H W = some (.lst (strV litW))
  d : H D = some (.lst xs)
  q : ∀ x ∈ xs, RA n H x
  l : xs.length ≤ 21 + n
section
variable {K : PySem.W.Frag} {r a : Addr} {ns : List Int} {W D D' : Addr} {n : Nat} {xs ys : List V} {H H' : Hp}
theorem SpS.stp (S : SpS K r a ns W D n xs H) (s : Stp r H H') (R' : RowAt K H' r a ns) : SpS K r a ns W D n xs H' :=
  ⟨R', s _ _ S.w (str_ne_row S.R S.w), s _ _ S.d (ra_ne_row S.R S.d S.q), fun x hx => (S.q x hx).stp S.R s, S.l⟩
theorem SpS.same (S : SpS K r a ns W D n xs H) (s : Same H H') : SpS K r a ns W D n xs H' := S.stp (.of s) (S.R.stp s)
theorem SpS.fin (S : SpS K r a ns W D n xs H) (s : Same H H') (hd : H' D' = some (.lst ys)) (hq : ∀ y ∈ ys, y ∈ xs ∨ RA (n + 1) H' y) (hl : ys.length ≤ xs.length + 1) : SpS K r a ns W D' (n + 1) ys H' :=
  ⟨S.R.stp s, s _ _ S.w, hd, fun y hy => (hq y hy).elim (fun h => ((S.q y h).same s).mono (Nat.le_succ n)) id, by have := S.l; omega⟩
end
theorem cut_mem {xs : List V} {lo hi : Option Int} {x : V} (h : x ∈ cutV xs lo hi) : x ∈ xs := List.mem_of_mem_drop (List.mem_of_mem_take h)
theorem cut_drop (xs : List V) (k : Nat) : cutV xs (some (k : Int)) none = xs.drop k := by
  unfold cutV
  rw [HT.sIx_none, HT.sIx_nat]
  by_cases h : k ≤ xs.length
  · rw [Nat.min_eq_left h, List.take_of_length_le]
    rw [List.length_drop]
    omega
  · rw [Nat.min_eq_right (by omega), List.drop_eq_nil_of_le (Nat.le_refl _), List.drop_eq_nil_of_le (by omega)]
    exact List.take_nil
theorem cut_len2 (xs : List V) (i j : Nat) : (cutV xs (some (i : Int)) (some (j : Int))).length ≤ min j xs.length - min i xs.length := by
  unfold cutV
  rw [HT.sIx_nat, HT.sIx_nat, List.length_take]
  exact Nat.min_le_left _ _
theorem strV_take (r : List (List Nat)) (k : Nat) : (strV r).take k = strV (r.take k) := by
  unfold strV
  rw [List.map_take, List.map_take]
theorem strV_drop (r : List (List Nat)) (k : Nat) : (strV r).drop k = strV (r.drop k) := by
  unfold strV
  rw [List.map_drop, List.map_drop]
theorem strV_app (a b : List (List Nat)) : strV a ++ strV b = strV (a ++ b) := by
  unfold strV
  rw [List.map_append, List.map_append]
/-- the rows as data -/
theorem ra_rows {n : Nat} {H : Hp} : ∀ {xs : List V}, (∀ x ∈ xs, RA n H x) → ∃ (ts : List Addr) (rr : List (List (List Nat))), xs = ts.map V.ref ∧ Paired (fun t r => H t = some (.lst (strV r))) ts rr ∧ ∀ r ∈ rr, RowQ n r
  | [], _ => ⟨[], [], rfl, .nil, fun r h => nomatch h⟩
  | x :: xs, h => by
    obtain ⟨t, r, rfl, h1, h2⟩ := h x (List.mem_cons_self ..)
    obtain ⟨ts, rr, rfl, p, q⟩ := ra_rows (xs := xs) fun y hy => h y (List.mem_cons_of_mem _ hy)
    refine ⟨t :: ts, r :: rr, rfl, .cons h1 p, fun y hy => ?_⟩
    rcases List.mem_cons.mp hy with rfl | hy
    · exact h2
    · exact q y hy
def rowsD (rr : List (List (List Nat))) : PyData := .list (rr.map fun r => .list (r.map fun z => PyData.str (T z)))
theorem dp_rowsL {K : PySem.W.Frag} {H : Hp} {ts : List Addr} {rr : List (List (List Nat))} (p : Paired (fun t r => H t = some (.lst (strV r))) ts rr) : DpAll K H (ts.map V.ref) (rr.map fun r => .list (r.map fun z => PyData.str (T z))) := by
  induction p with
  | nil => exact .nil
  | cons h _ ih => exact .cons (.lst (.inl (.inl h)) (dp_texts _)) ih
theorem lay_rows : ∀ {rr : List (List (List Nat))}, (∀ r ∈ rr, ∀ z ∈ r, ∀ c ∈ z, c < 1114112) → PyData.canLayAll0 (rr.map fun r => .list (r.map fun z => PyData.str (T z))) = true ∧ PyData.depthAll (rr.map fun r => .list (r.map fun z => PyData.str (T z))) ≤ 1
  | [], _ => ⟨rfl, Nat.zero_le _⟩
  | r :: rr, h => by
    obtain ⟨h1, h2⟩ := lay_rows (rr := rr) fun x hx => h x (List.mem_cons_of_mem _ hx)
    obtain ⟨g1, g2⟩ := lay_texts (h r (List.mem_cons_self ..))
    constructor
    · show (PyData.canLayAll0 (r.map fun z => PyData.str (T z)) && PyData.canLayAll0 (rr.map fun r => .list (r.map fun z => PyData.str (T z)))) = true
      rw [g1, h1]
      rfl
    · show max (PyData.depthAll (r.map fun z => PyData.str (T z)) + 1) (PyData.depthAll (rr.map fun r => .list (r.map fun z => PyData.str (T z)))) ≤ 1
      omega
theorem shaped_rowsL {rr : List (List (List Nat))} (h : ∀ r ∈ rr, ∀ z ∈ r, ∀ c ∈ z, c < 1114112) : SeqAt.shaped (rowsD rr) = true := by
  obtain ⟨h1, h2⟩ := lay_rows h
  unfold SeqAt.shaped rowsD
  rw [Bool.and_eq_true]
  refine ⟨h1, decide_eq_true ?_⟩
  show PyData.depthAll (rr.map fun r => .list (r.map fun z => PyData.str (T z))) + 1 ≤ 64
  omega
theorem eqv_rows (rr : List (List (List Nat))) : PyData.eqv (rowsD rr) (.list []) = decide (rr = []) := by
  cases rr with
  | nil => rfl
  | cons w r => rfl
/-- `rows == []` -/
theorem nil_cmp {K : PySem.W.Frag} {n : Nat} {H : Hp} {D e : Addr} {xs : List V} (hd : H D = some (.lst xs)) (he : H e = some (.lst [])) (q : ∀ x ∈ xs, RA n H x) :
    ∃ d, Dp K H (.ref D) d ∧ Dp K H (.ref e) (.list []) ∧ SeqAt.shaped d = true ∧ SeqAt.shaped (.list []) = true ∧ PyData.eqv d (.list []) = decide (xs = []) := by
  obtain ⟨ts, rr, rfl, p, hr⟩ := ra_rows q
  refine ⟨rowsD rr, .lst (.inl (.inl hd)) (dp_rowsL p), .lst (.inl (.inl he)) .nil, shaped_rowsL fun r h z hz c hc => ?_, by decide +kernel, ?_⟩
  · have := (((hr r h).2 z hz).2 c hc).2.2; omega
  · rw [eqv_rows]
    refine decide_eq_decide.mpr ⟨fun z => ?_, fun z => ?_⟩
    · rw [z] at p; cases p; rfl
    · have := List.map_eq_nil_iff.mp z; rw [this] at p; cases p; rfl
def normL (r : List (List Nat)) : List (List Nat) := if r = [] then [[]] else r
def normR (rr : List (List (List Nat))) : List (List (List Nat)) := if rr = [] then [[[]]] else rr.map normL
theorem norm_line (r : List (List Nat)) : lineM (normL r) = lineM r := by
  unfold normL
  by_cases h : r = []
  · rw [if_pos h, h]; rfl
  · rw [if_neg h]
theorem norm_text (rr : List (List (List Nat))) : textN (normR rr) = TL.joinL [10] (rr.map lineM) := by
  unfold normR textN
  by_cases h : rr = []
  · rw [if_pos h, h]; rfl
  · rw [if_neg h, List.map_map]
    congr 1
    exact List.map_congr_left fun r _ => norm_line r
theorem norm_ok {rr : List (List (List Nat))} {n : Nat} (hn : n ≤ 80) (h : ∀ r ∈ rr, RowQ n r) (hl : rr.length ≤ 90) : RowsP (normR rr) := by
  unfold normR
  by_cases c : rr = []
  · rw [if_pos c]
    refine ⟨fun z => (by cases z), fun r hr => ?_, by decide⟩
    rw [List.mem_singleton.mp hr]
    exact ⟨fun z => (by cases z), by decide, fun z hz => by rw [List.mem_singleton.mp hz]; exact ⟨by decide, fun c hc => nomatch hc⟩⟩
  · rw [if_neg c]
    refine ⟨fun z => c (List.map_eq_nil_iff.mp z), fun r hr => ?_, by rw [List.length_map]; exact hl⟩
    obtain ⟨r0, h0, rfl⟩ := List.mem_map.mp hr
    have q := h r0 h0
    unfold normL
    by_cases e : r0 = []
    · rw [if_pos e]
      exact ⟨fun z => (by cases z), by decide, fun z hz => by rw [List.mem_singleton.mp hz]; exact ⟨by decide, fun c hc => nomatch hc⟩⟩
    · rw [if_neg e]
      exact ⟨e, by have := q.1; omega, fun z hz => ⟨by have := (q.2 z hz).1; omega, (q.2 z hz).2⟩⟩
end Say
namespace Say
open PySem PySem.Spec PyProof.Rows L2
theorem sl_tupW {X : Cx} : SlR X (fun x lo hi H Q => ∃ a xs, x = .ref a ∧ H a = some (.tup xs) ∧ ∀ (p : Addr) (H' : Hp), Same H H' → H' p = some (.tup (cutV xs lo hi)) → Q (.ref p) H') := by
  intro pins s σ H x v vl vu lo hi sl Q I rx hs pl pu h
  obtain ⟨a, xs, e, ha, q⟩ := h
  refine sl_tupA pins s σ H x v vl vu lo hi sl Q I rx hs pl pu ⟨a, xs, e, .inl (.inl ha), fun hw => ?_, fun hw p hp => ?_⟩
  · refine q a H (Same.refl H) ?_
    have : cutV xs lo hi = xs := by
      unfold cutV
      rw [hw.1, hw.2, List.drop_zero, Nat.sub_zero, List.take_length]
    rw [this]
    exact ha
  · exact q p _ (same_new hp _) upd_same
theorem paired_takeW {α β : Type} {F : α → β → Prop} : ∀ (m : Nat) {l : List α} {k : List β}, Paired F l k → Paired F (l.take m) (k.take m)
  | 0, _, _, _ => .nil
  | _ + 1, _, _, .nil => .nil
  | m + 1, _, _, .cons a t => .cons a (paired_takeW m t)
theorem cut_takeW (xs : List V) (k : Nat) : cutV xs none (some (k : Int)) = xs.take k := by
  unfold cutV
  rw [HT.sIx_none, HT.sIx_nat, List.drop_zero, Nat.sub_zero]
  rcases Nat.le_total k xs.length with h | h
  · rw [Nat.min_eq_left h]
  · rw [Nat.min_eq_right h, List.take_length, List.take_of_length_le h]
theorem rules_take {H H' : Hp} {R p : Addr} {rs : List Rule} {ts : List Addr} (k : Nat) (pR : Paired (fun t ρ => H t = some (.tup (Rule.vs ρ))) ts rs) (s : Same H H') (hp : H' p = some (.tup (cutV (ts.map V.ref) none (some (k : Int))))) : RulesAt H' p (rs.take k) := by
  refine ⟨ts.take k, ?_, paired_takeW k (paired_mono (fun t ρ h => s _ _ h) pR)⟩
  rw [hp, cut_takeW, List.map_take]
theorem excs_take {H H' : Hp} {p : Addr} {es : List Exc} {ts : List Addr} (k : Nat) (pX : Paired (fun t (e : Exc) => H t = some (.tup [.str (T e.1), .str (T e.2)])) ts es) (s : Same H H') (hp : TupN H' p (cutV (ts.map V.ref) none (some (k : Int)))) : ExcsAt H' p (es.take k) := by
  refine ⟨ts.take k, ?_, paired_takeW k (paired_mono (fun t ρ h => s _ _ h) pX)⟩
  rw [cut_takeW, ← List.map_take] at hp
  exact hp
end Say
namespace Say
open PySem PySem.Spec PyProof.Rows L2
section
variable {K : PySem.W.Frag} {r a : Addr} {ns : List Int} {W D : Addr} {n k : Nat} {xs : List V} {H : Hp} {σ : List (Option V)} {Q : VK}
theorem new_at {H : Hp} {p : Addr} (h : H p = none) (o : HO) : ∃ H', upd H p o = H' ∧ Same H H' ∧ H' p = some o := ⟨_, rfl, same_new h o, upd_same⟩
/-- rows[:k] + [[w]] + rows[k:] -/
theorem t_put {w : List Nat} (h1 : σ[1]? = some (some (V.ref D))) (h4 : σ[4]? = some (some (.int (k : Nat)))) (h6 : σ[6]? = some (some (.str (T w)))) (S : SpS K r a ns W D n xs H) (hn : n ≤ 10) (hw : w ∈ litW)
    (q : ∀ (D' : Addr) (ys : List V) (H' : Hp), Same H H' → SpS K r a ns W D' (n + 1) ys H' → Q (.ref D') H') :
    tOp rCat (tOp rCat (tSl (rSlL K) (tVar 1) tNoPart (tPart (tVar 4))) (tLst (tCons (tLst (tCons (tVar 6) tNil)) tNil))) (tSl (rSlL K) (tVar 1) (tPart (tVar 4)) tNoPart) σ H Q := by
  have hl := S.l
  refine ⟨_, h1, _, h4, k, rfl, D, xs, rfl, .inl (.inl S.d), fun p1 n1 => ?_⟩
  rw [cut_takeW]
  obtain ⟨H1, e1, s1, g1⟩ := new_at n1 (.lst (xs.take k))
  rw [e1]
  refine ⟨_, h6, (by show 1 ≤ sizeLine; decide), fun p2 n2 => ?_⟩
  obtain ⟨H2, e2, s2, g2⟩ := new_at n2 (.lst [.str (T w)])
  rw [e2]
  refine ⟨(by show 1 ≤ sizeLine; decide), fun p3 n3 => ?_⟩
  obtain ⟨H3, e3, s3, g3⟩ := new_at n3 (.lst [.ref p2])
  rw [e3]
  refine ⟨p1, p3, xs.take k, [.ref p2], rfl, rfl, (s2.trans s3) _ _ g1, g3, ?_, fun p4 n4 => ?_⟩
  · have := List.length_take_le' k xs
    show _ + 1 ≤ _
    exact small (by omega)
  obtain ⟨H4, e4, s4, g4⟩ := new_at n4 (.lst (xs.take k ++ [.ref p2]))
  rw [e4]
  have s04 := s1.trans (s2.trans (s3.trans s4))
  refine ⟨_, h1, _, h4, k, rfl, D, xs, rfl, .inl (.inl (s04 _ _ S.d)), fun p5 n5 => ?_⟩
  rw [cut_drop]
  obtain ⟨H5, e5, s5, g5⟩ := new_at n5 (.lst (xs.drop k))
  rw [e5]
  refine ⟨p4, p5, xs.take k ++ [.ref p2], xs.drop k, rfl, rfl, s5 _ _ g4, g5, ?_, fun p6 n6 => ?_⟩
  · rw [List.length_append, List.length_take, List.length_drop]
    show _ + 1 + _ ≤ _
    exact small (by omega)
  obtain ⟨H6, e6, s6, g6⟩ := new_at n6 (.lst (xs.take k ++ [.ref p2] ++ xs.drop k))
  rw [e6]
  have s06 := s04.trans (s5.trans s6)
  have w2 := (s3.trans (s4.trans (s5.trans s6))) _ _ g2
  refine q p6 _ H6 s06 (S.fin s06 g6 (fun y hy => ?_) ?_)
  · rcases List.mem_append.mp hy with h | h
    · rcases List.mem_append.mp h with h | h
      · exact .inl (List.mem_of_mem_take h)
      · rw [List.mem_singleton.mp h]
        exact .inr ⟨p2, [w], rfl, w2, by show 1 ≤ _; omega, fun z hz => by rw [List.mem_singleton.mp hz]; exact litW_ok w hw⟩
    · exact .inl (List.mem_of_mem_drop h)
  · rw [List.length_append, List.length_append, List.length_take, List.length_drop]
    show _ + 1 + _ ≤ _
    omega
/-- rows[:k] + [told] + rows[k + 1:] -/
theorem t_new {t : Addr} {z : List (List Nat)} (h1 : σ[1]? = some (some (V.ref D))) (h4 : σ[4]? = some (some (.int (k : Nat)))) (hA : σ[10]? = some (some (.ref t))) (S : SpS K r a ns W D n xs H) (hn : n ≤ 10) (ht : H t = some (.lst (strV z))) (hz : RowQ (n + 1) z)
    (q : ∀ (D' : Addr) (ys : List V) (H' : Hp), Same H H' → SpS K r a ns W D' (n + 1) ys H' → Q (.ref D') H') :
    tOp rCat (tOp rCat (tSl (rSlL K) (tVar 1) tNoPart (tPart (tVar 4))) (tLst (tCons (tVar 10) tNil))) (tSl (rSlL K) (tVar 1) (tPart (tOp (rI0 fun i j => .int (i + j)) (tVar 4) (tC (.int 1)))) tNoPart) σ H Q := by
  have hl := S.l
  refine ⟨_, h1, _, h4, k, rfl, D, xs, rfl, .inl (.inl S.d), fun p1 n1 => ?_⟩
  rw [cut_takeW]
  obtain ⟨H1, e1, s1, g1⟩ := new_at n1 (.lst (xs.take k))
  rw [e1]
  refine ⟨_, hA, (by show 1 ≤ sizeLine; decide), fun p3 n3 => ?_⟩
  obtain ⟨H3, e3, s3, g3⟩ := new_at n3 (.lst [.ref t])
  rw [e3]
  refine ⟨p1, p3, xs.take k, [.ref t], rfl, rfl, s3 _ _ g1, g3, ?_, fun p4 n4 => ?_⟩
  · have := List.length_take_le' k xs
    show _ + 1 ≤ _
    exact small (by omega)
  obtain ⟨H4, e4, s4, g4⟩ := new_at n4 (.lst (xs.take k ++ [.ref t]))
  rw [e4]
  have s04 := s1.trans (s3.trans s4)
  refine ⟨_, h1, _, h4, _, _, rfl, rfl, (k : Int) + 1, rfl, D, xs, rfl, .inl (.inl (s04 _ _ S.d)), fun p5 n5 => ?_⟩
  rw [show ((k : Int) + 1) = ((k + 1 : Nat) : Int) from rfl, cut_drop]
  obtain ⟨H5, e5, s5, g5⟩ := new_at n5 (.lst (xs.drop (k + 1)))
  rw [e5]
  refine ⟨p4, p5, xs.take k ++ [.ref t], xs.drop (k + 1), rfl, rfl, s5 _ _ g4, g5, ?_, fun p6 n6 => ?_⟩
  · rw [List.length_append, List.length_take, List.length_drop]
    show _ + 1 + _ ≤ _
    exact small (by omega)
  obtain ⟨H6, e6, s6, g6⟩ := new_at n6 (.lst (xs.take k ++ [.ref t] ++ xs.drop (k + 1)))
  rw [e6]
  have s06 := s04.trans (s5.trans s6)
  refine q p6 _ H6 s06 (S.fin s06 g6 (fun y hy => ?_) ?_)
  · rcases List.mem_append.mp hy with h | h
    · rcases List.mem_append.mp h with h | h
      · exact .inl (List.mem_of_mem_take h)
      · rw [List.mem_singleton.mp h]
        exact .inr ⟨t, z, rfl, s06 _ _ ht, hz⟩
    · exact .inl (List.mem_of_mem_drop h)
  · rw [List.length_append, List.length_append, List.length_take, List.length_drop]
    show _ + 1 + _ ≤ _
    omega
/-- rows[:k] + rows[k:k + 2][::-1] + rows[k + 2:] -/
theorem t_swap (h1 : σ[1]? = some (some (V.ref D))) (h4 : σ[4]? = some (some (.int (k : Nat)))) (S : SpS K r a ns W D n xs H) (hn : n ≤ 10)
    (q : ∀ (D' : Addr) (ys : List V) (H' : Hp), Same H H' → SpS K r a ns W D' (n + 1) ys H' → Q (.ref D') H') :
    tOp rCat (tOp rCat (tSl (rSlL K) (tVar 1) tNoPart (tPart (tVar 4))) (tRevL K (tSl (rSlL K) (tVar 1) (tPart (tVar 4)) (tPart (tOp (rI0 fun i j => .int (i + j)) (tVar 4) (tC (.int 2))))))) (tSl (rSlL K) (tVar 1) (tPart (tOp (rI0 fun i j => .int (i + j)) (tVar 4) (tC (.int 2)))) tNoPart) σ H Q := by
  have hl := S.l
  refine ⟨_, h1, _, h4, k, rfl, D, xs, rfl, .inl (.inl S.d), fun p1 n1 => ?_⟩
  rw [cut_takeW]
  obtain ⟨H1, e1, s1, g1⟩ := new_at n1 (.lst (xs.take k))
  rw [e1]
  refine ⟨_, h1, _, h4, k, rfl, _, h4, _, _, rfl, rfl, (k : Int) + 2, rfl, D, xs, rfl, .inl (.inl (s1 _ _ S.d)), fun p2 n2 => ?_⟩
  rw [show ((k : Int) + 2) = ((k + 2 : Nat) : Int) from rfl]
  have hm := fun x (h : x ∈ cutV xs (some (k : Int)) (some ((k + 2 : Nat) : Int))) => cut_mem h
  have hle := cut_len2 xs k (k + 2)
  generalize cutV xs (some (k : Int)) (some ((k + 2 : Nat) : Int)) = mid at hm hle ⊢
  obtain ⟨H2, e2, s2, g2⟩ := new_at n2 (.lst mid)
  rw [e2]
  refine ⟨p2, mid, rfl, .inl (.inl g2), fun p3 n3 => ?_⟩
  obtain ⟨H3, e3, s3, g3⟩ := new_at n3 (.lst mid.reverse)
  rw [e3]
  refine ⟨p1, p3, xs.take k, mid.reverse, rfl, rfl, (s2.trans s3) _ _ g1, g3, ?_, fun p4 n4 => ?_⟩
  · have := List.length_take_le' k xs
    rw [List.length_reverse]
    exact small (by omega)
  obtain ⟨H4, e4, s4, g4⟩ := new_at n4 (.lst (xs.take k ++ mid.reverse))
  rw [e4]
  have s04 := s1.trans (s2.trans (s3.trans s4))
  refine ⟨_, h1, _, h4, _, _, rfl, rfl, (k : Int) + 2, rfl, D, xs, rfl, .inl (.inl (s04 _ _ S.d)), fun p5 n5 => ?_⟩
  rw [show ((k : Int) + 2) = ((k + 2 : Nat) : Int) from rfl, cut_drop]
  obtain ⟨H5, e5, s5, g5⟩ := new_at n5 (.lst (xs.drop (k + 2)))
  rw [e5]
  have hlen : (xs.take k ++ mid.reverse).length + (xs.drop (k + 2)).length ≤ xs.length := by
    rw [List.length_append, List.length_reverse, List.length_take, List.length_drop]
    omega
  refine ⟨p4, p5, xs.take k ++ mid.reverse, xs.drop (k + 2), rfl, rfl, s5 _ _ g4, g5, small (by omega), fun p6 n6 => ?_⟩
  obtain ⟨H6, e6, s6, g6⟩ := new_at n6 (.lst (xs.take k ++ mid.reverse ++ xs.drop (k + 2)))
  rw [e6]
  have s06 := s04.trans (s5.trans s6)
  refine q p6 _ H6 s06 (S.fin s06 g6 (fun y hy => .inl ?_) ?_)
  · rcases List.mem_append.mp hy with h | h
    · rcases List.mem_append.mp h with h | h
      · exact List.mem_of_mem_take h
      · exact hm _ (List.mem_reverse.mp h)
    · exact List.mem_of_mem_drop h
  · rw [List.length_append]
    omega
/-- a list of two pieces -/
theorem t_two {A B : TE} {y1 y2 : List V} (hA : ∀ (H1 : Hp) (Q1 : VK), Same H H1 → (∀ p, H1 p = none → Q1 (.ref p) (upd H1 p (.lst y1))) → A σ H1 Q1) (hB : ∀ (H1 : Hp) (Q1 : VK), Same H H1 → (∀ p, H1 p = none → Q1 (.ref p) (upd H1 p (.lst y2))) → B σ H1 Q1)
    (hl : y1.length + y2.length ≤ 1000) {H0 : Hp} (s0 : Same H H0) (q : ∀ (p : Addr) (H' : Hp), Same H0 H' → H' p = some (.lst (y1 ++ y2)) → Q (.ref p) H') : tOp rCat A B σ H0 Q := by
  refine hA _ _ s0 fun p1 n1 => ?_
  obtain ⟨H1, e1, s1, g1⟩ := new_at n1 (.lst y1)
  rw [e1]
  refine hB _ _ (s0.trans s1) fun p2 n2 => ?_
  obtain ⟨H2, e2, s2, g2⟩ := new_at n2 (.lst y2)
  rw [e2]
  refine ⟨p1, p2, y1, y2, rfl, rfl, s2 _ _ g1, g2, small (by omega), fun p3 n3 => ?_⟩
  obtain ⟨H3, e3, s3, g3⟩ := new_at n3 (.lst (y1 ++ y2))
  rw [e3]
  exact q p3 H3 (s1.trans (s2.trans s3)) g3
theorem t_take (h1 : σ[1]? = some (some (V.ref D))) (h4 : σ[4]? = some (some (.int (k : Nat)))) (hd : H D = some (.lst xs)) (H1 : Hp) (Q1 : VK) (s : Same H H1) (q : ∀ p, H1 p = none → Q1 (.ref p) (upd H1 p (.lst (xs.take k)))) : tSl (rSlL K) (tVar 1) tNoPart (tPart (tVar 4)) σ H1 Q1 :=
  ⟨_, h1, _, h4, k, rfl, D, xs, rfl, .inl (.inl (s _ _ hd)), fun p n => by rw [cut_takeW]; exact q p n⟩
theorem t_drop (h1 : σ[1]? = some (some (V.ref D))) (h4 : σ[4]? = some (some (.int (k : Nat)))) (hd : H D = some (.lst xs)) (H1 : Hp) (Q1 : VK) (s : Same H H1) (q : ∀ p, H1 p = none → Q1 (.ref p) (upd H1 p (.lst (xs.drop k)))) : tSl (rSlL K) (tVar 1) (tPart (tVar 4)) tNoPart σ H1 Q1 :=
  ⟨_, h1, _, h4, k, rfl, D, xs, rfl, .inl (.inl (s _ _ hd)), fun p n => by rw [cut_drop]; exact q p n⟩
theorem t_take1 (h1 : σ[1]? = some (some (V.ref D))) (h4 : σ[4]? = some (some (.int (k : Nat)))) (hd : H D = some (.lst xs)) (H1 : Hp) (Q1 : VK) (s : Same H H1) (q : ∀ p, H1 p = none → Q1 (.ref p) (upd H1 p (.lst (xs.take (k + 1))))) : tSl (rSlL K) (tVar 1) tNoPart (tPart (tOp (rI0 fun i j => .int (i + j)) (tVar 4) (tC (.int 1)))) σ H1 Q1 :=
  ⟨_, h1, _, h4, _, _, rfl, rfl, (k : Int) + 1, rfl, D, xs, rfl, .inl (.inl (s _ _ hd)), fun p n => by rw [show ((k : Int) + 1) = ((k + 1 : Nat) : Int) from rfl, cut_takeW]; exact q p n⟩
theorem t_drop1 (h1 : σ[1]? = some (some (V.ref D))) (h4 : σ[4]? = some (some (.int (k : Nat)))) (hd : H D = some (.lst xs)) (H1 : Hp) (Q1 : VK) (s : Same H H1) (q : ∀ p, H1 p = none → Q1 (.ref p) (upd H1 p (.lst (xs.drop (k + 1))))) : tSl (rSlL K) (tVar 1) (tPart (tOp (rI0 fun i j => .int (i + j)) (tVar 4) (tC (.int 1)))) tNoPart σ H1 Q1 :=
  ⟨_, h1, _, h4, _, _, rfl, rfl, (k : Int) + 1, rfl, D, xs, rfl, .inl (.inl (s _ _ hd)), fun p n => by rw [show ((k : Int) + 1) = ((k + 1 : Nat) : Int) from rfl, cut_drop]; exact q p n⟩
end
end Say
namespace Say
open PySem PySem.Spec PyProof.Rows L2
section
variable {P : Program} {w : World} {K : PySem.W.Frag} {mg : Str → Option Value} {base : Heap}
abbrev sLSp : Stmt := topS 59
abbrev nLSp : List Str := ["_law_row_here", "_law_rows", "_law_words", "_law_turn", "_law_k", "_law_way", "_law_word_here", "_law_some", "_law_at", "_law_rest", "_law_told", "_law_line"]
theorem scLSp : FnScope nLSp ["_law_row_here", "_law_rows"] (defScope sLSp) := ⟨rfl, rfl, rfl, by decide +kernel, rfl, by decide +kernel, by decide +kernel⟩
abbrev stSp : List Stmt := match defBody sLSp with | _ :: .For _ _ (_ :: t) _ _ :: _ => t | _ => []
def spLSp (K : PySem.W.Frag) : Sp := fun vs H Q _ => ∃ (r a : Addr) (ns : List Int) (D : Addr) (xs : List V), vs = [.ref r, .ref D] ∧ RowAt K H r a ns ∧ H D = some (.lst xs) ∧ (∀ x ∈ xs, RA 0 H x) ∧ xs.length ≤ 21 ∧
  ∀ (rows : List (List (List Nat))) (H' : Hp), RowsP rows → Stp r H H' → RowAt K H' r a ns → Q (.str (T (textN rows))) H'
def IsS (r D W : Addr) (σ : List (Option V)) : Prop := ∃ v3 v4 v5 v6 v7 v8 v9 v10 : Option V, σ = [some (.ref r), some (.ref D), some (.ref W), v3, v4, v5, v6, v7, v8, v9, v10, none]
theorem ok_LSp {f : Addr} {fd : FuncData} (F : Fun K "_law_spoilt" "_law_spoilt" sLSp f fd) (B : Bn mg) (DT : Df P w K mg base "_law_taken" ["_law_row_here", "_law_many"] 1 (spTaken K)) : FnOk P w K mg base CX0 4 f fd ["_law_row_here", "_law_rows"] (spLSp K) := by
  obtain ⟨fT, fdT, GT, kT, bT, mT⟩ := DT
  refine F.ok scLSp (fun vs H Q E h => ?_) (fun cdv A outer s H vs Q E hr h => ?_)
  · obtain ⟨r, a, ns, D, xs, rfl, _⟩ := h
    rfl
  · obtain ⟨r, a, ns, D0, xs0, rfl, R, hD0, q0, l0, q⟩ := h
    have hr1 : Room 1 _ := hr.mono (by decide)
    obtain ⟨tR, psR, qR⟩ : ∃ tR : TS, PSs (cxOf CX0 P w K mg base nLSp "_law_spoilt" (defScope sLSp) f cdv A outer s H E).nox stSp tR ∧
        ∀ (C : Ends) (W D : Addr) (xs : List V) (n k : Nat) (v3 v5 v6 v7 v8 v9 v10 : Option V) (H1 : Hp), SpS K r a ns W D n xs H1 → n ≤ 4 → (xs = [] ∨ k < xs.length) →
          (∀ (D' : Addr) (ys : List V) (σ' : List (Option V)) (H' : Hp), Stp r H1 H' → SpS K r a ns W D' (n + 1) ys H' → IsS r D' W σ' → C.nx σ' H') →
          tR C [some (.ref r), some (.ref D), some (.ref W), v3, some (.int (k : Nat)), v5, v6, v7, v8, v9, v10, none] H1 := by
      refine ⟨_, (pss_cons (ps_par (i := 5) (j := 6) (by rfl) scLSp.nd rfl rfl (by decide) rfl rfl (pa_cons (pe_call GT hr1 (by rfl) mT kT bT .nil pass0 (pa_cons (pv 0) (pa_cons pe_int pa_nil))) (pa_cons (pe_ix ix_list (pv 2) (pe_call GT hr1 (by rfl) mT kT bT .nil pass0 (pa_cons (pv 0) (pa_cons pe_int pa_nil))) (fun _ _ => rfl)) pa_nil)) (by rfl))
        (pss_one (ps_if (PW.pt (pw_or (pt_cmpR (op_eqD hr.units) (pv 1) (pe_lst pa_nil) (nomark _)) (pw_or1 (pt_cmpR op_eq (pv 5) pe_int (nomark _))))) (pss_one (ps_set (i := 1) scLSp.nd rfl (.inl rfl) (pe_op op_cat (pe_op op_cat (pe_slice sl_list (pv 1) po_none (po_some (pv 4))) (pe_lst (pa_cons (pe_lst (pa_cons (pv 6) pa_nil)) pa_nil))) (pe_slice sl_list (pv 1) (po_some (pv 4)) po_none)))) (pss_one (ps_if (pt_cmpR op_eq (pv 5) pe_int (nomark _)) (pss_cons (ps_set (i := 7) scLSp.nd rfl (.inl rfl) (pe_lst (pa_cons (pe_op op_cat (pe_slice sl_list (pv 1) po_none (po_some (pv 4))) (pe_slice sl_list (pv 1) (po_some (pe_op op_add (pv 4) pe_int)) po_none)) (pa_cons (pe_op op_cat (pe_slice sl_list (pv 1) (po_some (pv 4)) po_none) (pe_slice sl_list (pv 1) po_none (po_some (pv 4)))) (pa_cons (pe_op op_cat (pe_slice sl_list (pv 1) po_none (po_some (pe_op op_add (pv 4) pe_int))) (pe_slice sl_list (pv 1) (po_some (pv 4)) po_none)) pa_nil)))))
      (pss_one (ps_set (i := 1) scLSp.nd rfl (.inl rfl) (pe_ix ix_list (pv 7) (pe_call GT hr1 (by rfl) mT kT bT .nil pass0 (pa_cons (pv 0) (pa_cons pe_int pa_nil))) (fun _ _ => rfl))))) (pss_one (ps_if (pt_cmpR op_eq (pv 5) pe_int (nomark _)) (pss_one (ps_set (i := 1) scLSp.nd rfl (.inl rfl) (pe_op op_cat (pe_op op_cat (pe_slice sl_list (pv 1) po_none (po_some (pv 4))) (pe_revL (pe_slice sl_list (pv 1) (po_some (pv 4)) (po_some (pe_op op_add (pv 4) pe_int))))) (pe_slice sl_list (pv 1) (po_some (pe_op op_add (pv 4) pe_int)) po_none)))) (pss_cons (ps_set (i := 8) scLSp.nd rfl (.inl rfl) (pe_call GT hr1 (by rfl) mT kT bT .nil pass0 (pa_cons (pv 0) (pa_cons (pe_op op_add (pe_callB call_len (by rfl) B.len PySem.boot_len (pa_cons (pe_ix ix_list (pv 1) (pv 4) (fun _ _ => rfl)) pa_nil)) pe_int) pa_nil))))
      (pss_cons (ps_set (i := 9) scLSp.nd rfl (.inl rfl) (pe_slice sl_list (pe_ix ix_list (pv 1) (pv 4) (fun _ _ => rfl)) (po_some (pe_op op_add (pv 8) (pe_op op_mod (pv 5) pe_int))) po_none))
      (pss_cons (ps_set (i := 10) scLSp.nd rfl (.inl rfl) (pe_op op_cat (pe_op op_cat (pe_slice sl_list (pe_ix ix_list (pv 1) (pv 4) (fun _ _ => rfl)) po_none (po_some (pv 8))) (pe_op op_rep (pe_lst (pa_cons (pv 6) pa_nil)) (pe_op op_fdiv (pv 5) pe_int))) (pv 9)))
      (pss_one (ps_set (i := 1) scLSp.nd rfl (.inl rfl) (pe_op op_cat (pe_op op_cat (pe_slice sl_list (pv 1) po_none (po_some (pv 4))) (pe_lst (pa_cons (pv 10) pa_nil))) (pe_slice sl_list (pv 1) (po_some (pe_op op_add (pv 4) pe_int)) po_none)))))))))))))), ?_⟩
      intro C W D xs n k v3 v5 v6 v7 v8 v9 v10 H1 S hn hk fin
      have hl := S.l
      refine ⟨_, rfl, r, a, ns, 9, rfl, S.R, by decide, by decide, fun way H2 a2 b2 s2 R2 => ?_⟩
      have S2 := S.stp s2 R2
      refine ⟨_, rfl, _, rfl, r, a, ns, 17, rfl, R2, by decide, by decide, fun wi H3 a3 b3 s3 R3 => ?_⟩
      have S3 := S2.stp s3 R3
      have hj : wi.toNat < litW.length := by show _ < 17; omega
      obtain ⟨wd, hwd⟩ : ∃ wd, litW[wi.toNat]? = some wd := ⟨_, List.getElem?_eq_getElem hj⟩
      have hwm := List.mem_of_getElem? hwd
      refine ⟨W, _, wi, .str (T wd), rfl, rfl, .inl (.inl S3.w), at_of (j := wi.toNat) (by omega) (strV_at hwd), ?_⟩
      refine ⟨_, _, rfl, ?_⟩
      have s13 := s2.trans s3
      simp only [List.set_cons_succ, List.set_cons_zero]
      -- rows == [] or way == 0
      refine ⟨_, rfl, (by show 0 ≤ sizeLine; decide), fun e0 he0 => ?_⟩
      have se := same_new he0 (.lst [])
      have ee : (upd H3 e0 (.lst [])) e0 = some (.lst []) := upd_same
      generalize upd H3 e0 (.lst []) = H4 at se ee ⊢
      have S4 := S3.same se
      have s14 : Stp r H1 H4 := s13.trans (.of se)
      obtain ⟨d, d1, d2, d3, d4, d5⟩ := nil_cmp (K := K) S4.d ee S4.q
      refine ⟨d, _, d1, d2, d3, d4, _, rfl, ?_⟩
      rw [d5]
      have put : ∀ (v : Option V), tOp rCat (tOp rCat (tSl (rSlL K) (tVar 1) tNoPart (tPart (tVar 4))) (tLst (tCons (tLst (tCons (tVar 6) tNil)) tNil))) (tSl (rSlL K) (tVar 1) (tPart (tVar 4)) tNoPart) [some (.ref r), some (.ref D), some (.ref W), v3, some (.int (k : Nat)), some (.int way), some (.str (T wd)), v7, v8, v9, v10, none] H4 (fun x H' => C.nx [some (.ref r), some x, some (.ref W), v3, some (.int (k : Nat)), some (.int way), some (.str (T wd)), v7, v8, v9, v10, none] H') := fun v => by
        refine t_put (k := k) (w := wd) rfl rfl rfl S4 (by omega) hwm fun D' ys H' s' S' => ?_
        exact fin D' ys _ H' (s14.trans (.of s')) S' ⟨_, _, _, _, _, _, _, _, rfl⟩
      by_cases cn : xs = []
      · rw [decide_eq_true cn]
        exact iteT (put none)
      have hk : k < xs.length := hk.resolve_left cn
      rw [decide_eq_false cn]
      refine iteF ?_
      refine ⟨_, rfl, rfl, _, rfl, ite2 (fun _ => put none) (fun _ => ?_)⟩
      refine ⟨_, rfl, rfl, _, rfl, ite2 (fun _ => ?_) (fun _ => ?_)⟩
      · -- one of three
        refine t_two (t_take (k := k) rfl rfl S4.d) (t_drop1 (k := k) rfl rfl S4.d) (by rw [List.length_take, List.length_drop]; omega) (Same.refl H4) fun p1 H5 s5 g1 => ?_
        refine t_two (t_drop (k := k) rfl rfl (s5 _ _ S4.d)) (t_take (k := k) rfl rfl (s5 _ _ S4.d)) (by rw [List.length_take, List.length_drop]; omega) (Same.refl H5) fun p2 H6 s6 g2 => ?_
        have s46 := s5.trans s6
        refine t_two (t_take1 (k := k) rfl rfl (s46 _ _ S4.d)) (t_drop (k := k) rfl rfl (s46 _ _ S4.d)) (by rw [List.length_take, List.length_drop]; omega) (Same.refl H6) fun p3 H7 s7 g3 => ?_
        have s47 := s46.trans s7
        refine ⟨(by show 3 ≤ sizeLine; decide), fun p nP => ?_⟩
        obtain ⟨H8, e8, s8, g8⟩ := new_at nP (.lst [V.ref p1, .ref p2, .ref p3])
        rw [e8]
        simp only [List.set_cons_succ, List.set_cons_zero]
        have s48 := s47.trans s8
        have S8 := S4.same s48
        refine ⟨_, rfl, _, rfl, r, a, ns, 3, rfl, S8.R, by decide, by decide, fun j H9 a9 b9 s9 R9 => ?_⟩
        have S9 := S8.stp s9 R9
        have gp : H9 p = some (.lst [V.ref p1, .ref p2, .ref p3]) := s9 _ _ g8 fun e => by
          obtain ⟨⟨_, _, _, qq, _⟩, _⟩ := S8.R
          rw [e, qq] at g8
          have z : (4 : Nat) = 3 := congrArg List.length (HO.lst.inj (Option.some.inj g8))
          omega
        have go : ∀ (p' : Addr) (ys : List V), H8 p' = some (.lst ys) → (∀ y ∈ ys, y ∈ xs) → ys.length ≤ xs.length + 1 → C.nx [some (.ref r), some (.ref p'), some (.ref W), v3, some (.int (k : Nat)), some (.int way), some (.str (T wd)), some (.ref p), v8, v9, v10, none] H9 := fun p' ys g hm hy => by
          have g9 := s9 _ _ g (ra_ne_row S8.R g fun y hy => S8.q y (hm y hy))
          exact fin p' ys _ H9 ((s14.trans (.of s48)).trans s9) (S9.fin (Same.refl H9) g9 (fun y h => .inl (hm y h)) hy) ⟨_, _, _, _, _, _, _, _, rfl⟩
        have hj : j = 0 ∨ j = 1 ∨ j = 2 := by omega
        rcases hj with e | e | e
        · refine ⟨p, _, j, .ref p1, rfl, rfl, .inl (.inl gp), at_of (j := 0) e rfl, ?_⟩
          refine go p1 _ (s8 _ _ (s7 _ _ (s6 _ _ g1))) (fun y hy => ?_) ?_
          · rcases List.mem_append.mp hy with h | h
            · exact List.mem_of_mem_take h
            · exact List.mem_of_mem_drop h
          · rw [List.length_append, List.length_take, List.length_drop]; omega
        · refine ⟨p, _, j, .ref p2, rfl, rfl, .inl (.inl gp), at_of (j := 1) e rfl, ?_⟩
          refine go p2 _ (s8 _ _ (s7 _ _ g2)) (fun y hy => ?_) ?_
          · rcases List.mem_append.mp hy with h | h
            · exact List.mem_of_mem_drop h
            · exact List.mem_of_mem_take h
          · rw [List.length_append, List.length_take, List.length_drop]; omega
        · refine ⟨p, _, j, .ref p3, rfl, rfl, .inl (.inl gp), at_of (j := 2) e rfl, ?_⟩
          refine go p3 _ (s8 _ _ g3) (fun y hy => ?_) ?_
          · rcases List.mem_append.mp hy with h | h
            · exact List.mem_of_mem_take h
            · exact List.mem_of_mem_drop h
          · rw [List.length_append, List.length_take, List.length_drop]; omega
      refine ⟨_, rfl, rfl, _, rfl, ite2 (fun _ => ?_) (fun _ => ?_)⟩
      · refine t_swap (k := k) rfl rfl S4 (by omega) fun D' ys H' s' S' => ?_
        exact fin D' ys _ H' (s14.trans (.of s')) S' ⟨_, _, _, _, _, _, _, _, rfl⟩
      -- a row changed
      obtain ⟨x, hx⟩ : ∃ x, xs[k]? = some x := ⟨_, List.getElem?_eq_getElem hk⟩
      obtain ⟨t, z, rfl, ht, hz⟩ := S4.q x (List.mem_of_getElem? hx)
      refine ⟨_, rfl, _, rfl, _, rfl, D, _, (k : Int), .ref t, rfl, rfl, .inl (.inl S4.d), atI_nat hx, _, _, rfl, .inl ⟨_, .inl (.inl ht), rfl⟩, _, _, rfl, rfl, r, a, ns, _, rfl, S4.R, ?_, ?_, fun at0 H5 a5 b5 s5 R5 => ?_⟩
      · omega
      · have := hz.1; rw [strV_len]; omega
      rw [strV_len] at b5
      obtain ⟨c, rfl⟩ : ∃ c : Nat, at0 = c := ⟨at0.toNat, by omega⟩
      have S5 := S4.stp s5 R5
      have ht5 := s5 _ _ ht (str_ne_row S4.R ht)
      simp only [List.set_cons_succ, List.set_cons_zero]
      -- what is left of it
      obtain ⟨e, he⟩ : ∃ e : Nat, way % 2 = e := ⟨(way % 2).toNat, by omega⟩
      refine ⟨_, rfl, _, rfl, D, _, (k : Int), .ref t, rfl, rfl, .inl (.inl S5.d), atI_nat hx, _, rfl, _, rfl, _, _, rfl, rfl, (by show (0 : Int) < 2; decide), _, _, rfl, rfl, (c : Int) + way % 2, rfl, t, _, rfl, .inl (.inl ht5), fun p1 n1 => ?_⟩
      rw [he, show ((c : Int) + (e : Int)) = ((c + e : Nat) : Int) from rfl, cut_drop, strV_drop]
      obtain ⟨H6, e6, s6, g6⟩ := new_at n1 (.lst (strV (z.drop (c + e))))
      rw [e6]
      simp only [List.set_cons_succ, List.set_cons_zero]
      have S6 := S5.same s6
      have ht6 := s6 _ _ ht5
      -- told
      refine ⟨_, rfl, _, rfl, D, _, (k : Int), .ref t, rfl, rfl, .inl (.inl S6.d), atI_nat hx, _, rfl, (c : Int), rfl, t, _, rfl, .inl (.inl ht6), fun p2 n2 => ?_⟩
      rw [cut_takeW, strV_take]
      obtain ⟨H7, e7, s7, g7⟩ := new_at n2 (.lst (strV (z.take c)))
      rw [e7]
      refine ⟨_, rfl, (by show 1 ≤ sizeLine; decide), fun p3 n3 => ?_⟩
      obtain ⟨H8, e8, s8, g8⟩ := new_at n3 (.lst [V.str (T wd)])
      rw [e8]
      obtain ⟨m, hm, hm1⟩ : ∃ m : Nat, way / 5 = m ∧ m ≤ 1 := ⟨(way / 5).toNat, by omega, by omega⟩
      obtain ⟨zz, ez, lz, mz⟩ : ∃ zz : List (List Nat), (List.replicate m [V.str (T wd)]).flatten = strV zz ∧ zz.length ≤ 1 ∧ ∀ y ∈ zz, y = wd := by
        have h01 : m = 0 ∨ m = 1 := by omega
        rcases h01 with rfl | rfl
        · exact ⟨[], rfl, Nat.zero_le _, fun y h => nomatch h⟩
        · exact ⟨[wd], rfl, Nat.le_refl _, fun y h => List.mem_singleton.mp h⟩
      refine ⟨_, rfl, _, _, rfl, rfl, ⟨by decide, by decide⟩, p3, way / 5, [V.str (T wd)], rfl, rfl, g8, by omega, by omega, ?_, fun p4 n4 => ?_⟩
      · show 1 * (way / 5).toNat ≤ sizeLine
        exact small (by omega)
      rw [hm, show ((m : Int).toNat) = m from rfl, ez]
      obtain ⟨H9, e9, s9, g9⟩ := new_at n4 (.lst (strV zz))
      rw [e9]
      have g7' := (s8.trans s9) _ _ g7
      refine ⟨p2, p4, strV (z.take c), strV zz, rfl, rfl, g7', g9, ?_, fun p5 n5 => ?_⟩
      · have := hz.1
        rw [strV_len, strV_len, List.length_take]
        exact small (by omega)
      rw [strV_app]
      obtain ⟨H10, e10, s10, g10⟩ := new_at n5 (.lst (strV (z.take c ++ zz)))
      rw [e10]
      have g6' := (s7.trans (s8.trans (s9.trans s10))) _ _ g6
      have lz0 := hz.1
      refine ⟨_, rfl, p5, p1, strV (z.take c ++ zz), strV (z.drop (c + e)), rfl, rfl, g10, g6', ?_, fun p6 n6 => ?_⟩
      · rw [strV_len, strV_len, List.length_append, List.length_take, List.length_drop]
        exact small (by omega)
      rw [strV_app]
      obtain ⟨H11, e11, s11, g11⟩ := new_at n6 (.lst (strV (z.take c ++ zz ++ z.drop (c + e))))
      rw [e11]
      simp only [List.set_cons_succ, List.set_cons_zero]
      have s6B := s7.trans (s8.trans (s9.trans (s10.trans s11)))
      refine t_new (k := k) rfl rfl rfl (S6.same s6B) (by omega) g11 ⟨?_, fun y hy => ?_⟩ fun D' ys H' s' S' => ?_
      · rw [List.length_append, List.length_append, List.length_take, List.length_drop]
        omega
      · rcases List.mem_append.mp hy with h | h
        · rcases List.mem_append.mp h with h | h
          · exact hz.2 y (List.mem_of_mem_take h)
          · rw [mz y h]; exact litW_ok wd hwm
        · exact hz.2 y (List.mem_of_mem_drop h)
      · exact fin D' ys _ H' (((s14.trans s5).trans (.of s6)).trans ((Stp.of s6B).trans (.of s'))) S' ⟨_, _, _, _, _, _, _, _, rfl⟩
    refine ⟨_, pss_cons (ps_set (i := 2) scLSp.nd rfl (.inl rfl) (pe_lst (pa_cons pe_str (pa_cons pe_str (pa_cons pe_str (pa_cons pe_str (pa_cons pe_str (pa_cons pe_str (pa_cons pe_str (pa_cons pe_str (pa_cons pe_str (pa_cons pe_str (pa_cons pe_str (pa_cons pe_str (pa_cons pe_str (pa_cons pe_str (pa_cons pe_str (pa_cons pe_str (pa_cons pe_str pa_nil)))))))))))))))))))
      (pss_cons (ps_for PassesOwn.never rfl (pi_range1 (by rfl) B.rng (pa_cons (pe_call GT hr1 (by rfl) mT kT bT .nil pass0 (pa_cons (pv 0) (pa_cons pe_int pa_nil))) pa_nil)) (pg_name (i := 3) scLSp.nd rfl (.inl rfl)) (pss_cons (ps_set (i := 4) scLSp.nd rfl (.inl rfl) (pe_ifExp (pt_cmpR (op_neD hr.units) (pv 1) (pe_lst pa_nil) (nomark _)) (pe_call GT hr1 (by rfl) mT kT bT .nil pass0 (pa_cons (pv 0) (pa_cons (pe_callB call_len (by rfl) B.len PySem.boot_len (pa_cons (pv 1) pa_nil)) pa_nil))) pe_int)) psR))
      (pss_one (ps_ret (pe_join pe_str (pe_lc (own := [("_law_line", 11)]) (g := gName 11) (te := tJoin K (tC (.str " ")) (tVar 11)) rfl scLSp.nd (pi_list (pv 1)) (blkOk_by (N := nLSp) (sc := defScope sLSp) (by decide +kernel)) (fun _ _ _ _ _ => pg_name (i := 11) scLSp.nd rfl (.inl rfl)) (fun _ _ _ _ _ => pts_nil) (fun _ _ _ _ _ => pe_join pe_str (pv 11))))))), ?_⟩
    refine ⟨(by show 17 ≤ sizeLine; decide), fun W nW => ?_⟩
    obtain ⟨H1, e1, s1, g1⟩ := new_at nW (.lst (strV litW))
    rw [← litW_eq] at e1
    rw [show upd H W _ = H1 from e1]
    have R1 := R.stp s1
    refine ⟨_, rfl, r, a, ns, 5, rfl, R1, by decide, by decide, fun k0 H2 a0 b0 s2 R2 => ?_⟩
    refine ⟨k0, rfl, by omega, by omega, ?_⟩
    have S1 : SpS K r a ns W D0 0 xs0 H1 := ⟨R1, g1, s1 _ _ hD0, fun x hx => (q0 x hx).same s1, l0⟩
    refine for_it (walk_range) (fun i σ H3 => ∃ (D : Addr) (xs : List V), IsS r D W σ ∧ SpS K r a ns W D i xs H3 ∧ Stp r H H3) ⟨D0, xs0, ⟨_, _, _, _, _, _, _, _, rfl⟩, S1.stp s2 R2, (Stp.of s1).trans s2⟩ (fun _ _ _ _ _ => trivial) ?_ ?_
    · rintro i x σ H3 H3' hi ⟨D, xs, ⟨v3, v4, v5, v6, v7, v8, v9, v10, rfl⟩, S, st⟩ ⟨rfl, rfl⟩
      have hi4 : i < 4 := by omega
      have hl := S.l
      simp only [List.set_cons_succ, List.set_cons_zero]
      refine ⟨_, rfl, (by show 0 ≤ sizeLine; decide), fun e0 he0 => ?_⟩
      have se := same_new he0 (.lst [])
      have ee : (upd H3' e0 (.lst [])) e0 = some (.lst []) := upd_same
      generalize upd H3' e0 (.lst []) = H4 at se ee ⊢
      have S4 := S.same se
      obtain ⟨d, d1, d2, d3, d4, d5⟩ := nil_cmp (K := K) S4.d ee S4.q
      refine ⟨d, _, d1, d2, d3, d4, _, rfl, ?_⟩
      rw [d5]
      by_cases cn : xs = []
      · rw [decide_eq_true cn]
        refine iteF ?_
        simp only [List.set_cons_succ, List.set_cons_zero]
        exact qR _ W D xs i 0 _ _ _ _ _ _ _ H4 S4 (by omega) (.inl cn) fun D' ys σ' H' s' S' is => ⟨D', ys, is, S', st.trans ((Stp.of se).trans s')⟩
      · rw [decide_eq_false cn]
        refine iteT ?_
        have hpos : 0 < xs.length := Nat.pos_of_ne_zero fun z => cn (List.eq_nil_of_length_eq_zero z)
        refine ⟨_, rfl, _, rfl, _, _, rfl, .inl ⟨_, .inl (.inl S4.d), rfl⟩, r, a, ns, _, rfl, S4.R, by omega, by omega, fun k1 H5 a1 b1 s5 R5 => ?_⟩
        obtain ⟨k, rfl⟩ : ∃ k : Nat, k1 = k := ⟨k1.toNat, by omega⟩
        simp only [List.set_cons_succ, List.set_cons_zero]
        exact qR _ W D xs i k _ _ _ _ _ _ _ H5 (S4.stp s5 R5) (by omega) (.inr (by omega)) fun D' ys σ' H' s' S' is => ⟨D', ys, is, S', st.trans ((Stp.of se).trans (s5.trans s'))⟩
    · rintro σ H3 ⟨D, xs, ⟨v3, v4, v5, v6, v7, v8, v9, v10, rfl⟩, S, st⟩
      obtain ⟨ts, rr, rfl, p, hr⟩ := ra_rows S.q
      have hl := S.l
      rw [List.length_map, paired_len p] at hl
      have hll : ∀ r' ∈ rr, (lineM r').length ≤ 500 := fun r' h' => by
        have h1 := joinL_len [32] r'
        obtain ⟨h2, h3⟩ := hr r' h'
        have h4 : (r'.map List.length).sum ≤ r'.length * 40 := by
          have := sum_le (n := 40) (ls := r'.map List.length) fun x hx => by
            obtain ⟨z, hz, rfl⟩ := List.mem_map.mp hx
            exact (h3 z hz).1
          rwa [List.length_map] at this
        unfold lineM
        have : r'.length * [32].length = r'.length := Nat.mul_one _
        omega
      refine ⟨⟨_, rfl⟩, _, rfl, D, rfl, ⟨_, .inl (.inl S.d)⟩, fun D2 hD2 => ?_⟩
      refine lc_it (walk_list (xs := ts.map V.ref)) (fun j HX => HX D2 = some (.lst (strV ((rr.take j).map lineM))) ∧ Same H3 HX) ⟨upd_same, same_new hD2 _⟩ (fun j HX _ h => .inl (.inl (h.2 _ _ S.d))) ?_ ?_
      · rintro j x HX HX' hj ⟨f1, f2⟩ ⟨rfl, hx⟩
        rw [List.getElem?_map] at hx
        obtain ⟨t, ht, e⟩ := Option.map_eq_some_iff.mp hx
        subst e
        obtain ⟨z, hz, hat⟩ := paired_at p ht
        have hzm := List.mem_of_getElem? hz
        obtain ⟨h2, h3⟩ := hr z hzm
        refine ⟨rfl, ⟨_, rfl⟩, _, rfl, Str.ofString " ", t, z.map T, rfl, rfl, .inl (.inl (.inl (f2 _ _ hat))), ?_, ?_⟩
        · have h4 : (z.map List.length).sum ≤ z.length * 40 := by
            have := sum_le (n := 40) (ls := z.map List.length) fun x hx => by
              obtain ⟨y, hy, rfl⟩ := List.mem_map.mp hx
              exact (h3 y hy).1
            rwa [List.length_map] at this
          have e2 : ((z.map T).map fun x => x.length) = z.map List.length := by
            rw [List.map_map]
            exact List.map_congr_left fun y _ => T_len y
          rw [e2, sp_eq, T_len, List.length_map]
          show _ + _ * 1 ≤ _
          omega
        rw [sp_eq, join_T]
        refine ⟨_, f1, ?_, ?_, fun c u hc => ?_⟩
        · rw [strV_len, List.length_map, List.length_take]
          exact small1000 (by omega)
        · rw [upd_same, take_snoc hz, List.map_append]
          unfold strV
          rw [List.map_append, List.map_append]
          rfl
        · rw [upd_ne (ne_of_none hc hD2)]
          exact f2 _ _ hc
      rintro HX ⟨f1, f2⟩
      rw [List.length_map, paired_len p, List.take_length] at f1
      refine ⟨Str.ofString "\n", D2, (rr.map lineM).map T, rfl, rfl, .inl (.inl (.inl f1)), ?_, ?_⟩
      · have e2 : (((rr.map lineM).map T).map fun x => x.length) = (rr.map lineM).map List.length := by
          rw [List.map_map]
          exact List.map_congr_left fun y _ => T_len y
        have h4 : ((rr.map lineM).map List.length).sum ≤ rr.length * 500 := by
          have := sum_le (n := 500) (ls := (rr.map lineM).map List.length) fun x hx => by
            obtain ⟨y, hy, rfl⟩ := List.mem_map.mp hx
            obtain ⟨r', h', rfl⟩ := List.mem_map.mp hy
            exact hll r' h'
          rwa [List.length_map, List.length_map] at this
        rw [e2, nl_eq, T_len, List.length_map, List.length_map]
        show _ + _ * 1 ≤ _
        omega
      rw [nl_eq, join_T, ← norm_text]
      exact q _ HX (norm_ok (n := 80) (by decide) (fun r' h' => (hr r' h').mono (by omega)) (by omega)) (st.trans (.of f2)) (S.R.stp f2)
end
end Say
namespace Say
open PySem PySem.Spec PyProof.Rows L2
/-! ### [line.split(" ") for line in ..], a new list of lists of words -/
abbrev rSplitX : V → List V → Hp → VK → Prop := fun x xs H Q => ∃ a b, x = .str a ∧ xs = [.str b] ∧ (b.length == 0) = false ∧ a.length + 2 ≤ sizeLine ∧ rNewStrs (Txt.split a b) H Q
theorem rows_lc {K : PySem.W.Frag} {W D : Addr} {H1 : Hp} {rows : List (List (List Nat))} {σ : L2.St} {vs : List Nat} {j : Nat} {Qd : Hp → Prop} (ho : RowsP rows) (hW1 : H1 W = some (.lst (((rows.map lineM).map T).map V.str))) (hD : H1 D = none)
    (h1 : ∀ x, ((wipe σ vs).set j (some x))[j]? = some (some x)) (h2 : ∀ x, wipe ((wipe σ vs).set j (some x)) vs = wipe σ vs) (q : ∀ H', Same H1 H' → LRows H' D rows → Qd H') :
    ∃ W' : Nat → Nat → Hp → Prop, (∃ m, W' 0 m (upd H1 D (.lst []))) ∧ ∀ i m H, W' i m H →
      ((Itl K W).stop i H ∧ Qd H) ∨ ((Itl K W).go i H ∧ ∃ Nx : Hp → Prop, (∀ H', Nx H' → ∃ m', m' < m ∧ W' (i + 1) m' H') ∧ ∀ x H', (Itl K W).yld i H x H' → gName j x (wipe σ vs) H' fun σ2 H2 => wipe σ2 vs = wipe σ vs ∧ tYes σ2 H2 fun b H3 =>
        if b = true then (tM1 rSplitX (tVar j) (tC (.str " "))) σ2 H3 fun y H4 => ∃ acc, H4 D = some (.lst acc) ∧ acc.length < sizeLine ∧ Nx (upd H4 D (.lst (acc ++ [y]))) else Nx H3) := by
  have hl := ho.l
  refine lc_it (walk_list (xs := ((rows.map lineM).map T).map V.str)) (fun i H2 => (∃ ts : List Addr, H2 D = some (.lst (ts.map V.ref)) ∧ Paired (fun t r => H2 t = some (.lst (strV r))) ts (rows.take i) ∧ ∀ t ∈ ts, t ≠ D) ∧ Same H1 H2) ?_ (fun i H2 _ h => .inl (.inl (h.2 _ _ hW1))) ?_ ?_
  · exact ⟨⟨[], upd_same, .nil, fun t h => (nomatch h)⟩, same_new hD _⟩
  · rintro i x H2 H2' hi ⟨⟨ts, e1, e2, e4⟩, e3⟩ ⟨rfl, hx⟩
    rw [List.map_map, List.map_map, List.getElem?_map] at hx
    obtain ⟨r, hmr, e⟩ := Option.map_eq_some_iff.mp hx
    subst e
    have hrm := List.mem_of_getElem? hmr
    have ll := ho.line hrm
    refine ⟨h2 _, _, h1 _, ⟨_, rfl⟩, _, _, rfl, rfl, (by decide +kernel), (by show (T (lineM r)).length + 2 ≤ _; rw [T_len]; exact small (by omega)), fun p hp => ?_⟩
    rw [sp_eq, show Txt.split (T (lineM r)) (T [32]) = r.map T from ho.row hrm]
    have sp := same_new hp (.lst ((r.map T).map V.str))
    have e1' := sp _ _ e1
    have npD : p ≠ D := fun z => by rw [z, e1] at hp; cases hp
    have lt : ts.length ≤ 90 := by
      rw [paired_len e2, List.length_take]
      omega
    refine ⟨_, e1', ?_, ⟨ts ++ [p], ?_, ?_, ?_⟩, ?_⟩
    · rw [List.length_map]
      exact Nat.lt_of_le_of_lt lt (by decide)
    · rw [upd_same, List.map_append]
      rfl
    · rw [take_snoc hmr]
      refine paired_app ?_ (.cons ?_ .nil)
      · have go : ∀ {ts' : List Addr} {l : List (List (List Nat))} {o : HO}, (∀ t ∈ ts', t ≠ D) → Paired (fun t r => H2' t = some (.lst (strV r))) ts' l → Paired (fun t r' => (upd (upd H2' p (.lst ((r.map T).map V.str))) D o) t = some (.lst (strV r'))) ts' l := by
          intro ts' l o hn hp'
          induction hp' with
          | nil => exact .nil
          | cons a t ih => exact .cons (by rw [upd_ne (hn _ (List.mem_cons_self ..))]; exact sp _ _ a) (ih fun x hx => hn x (List.mem_cons_of_mem _ hx))
        exact go e4 e2
      · rw [upd_ne npD, upd_same]
        rfl
    · intro t ht
      rcases List.mem_append.mp ht with ht | ht
      · exact e4 t ht
      · rw [List.mem_singleton.mp ht]; exact npD
    · exact fun c u hc => by
        rw [upd_ne (ne_of_none hc hD)]
        exact sp _ _ (e3 _ _ hc)
  rintro H2 ⟨⟨ts, e1, e2, e4⟩, e3⟩
  have le : (((rows.map lineM).map T).map V.str).length = rows.length := by rw [List.length_map, List.length_map, List.length_map]
  rw [le, List.take_length] at e2
  exact q H2 e3 ⟨ts, e1, e2⟩
/-- the words of a written book are rows that are read -/
theorem words_P {L : List Nat} {rs : List Rule} {es : List Exc} (ho : BookOk L rs es) : RowsP (wordsM L rs es) := by
  have h1 := rows_len ho
  refine ⟨fun z => ?_, fun r hr => ?_, ?_⟩
  · unfold wordsM rowsM at z; cases z
  · obtain ⟨r0, h0, rfl⟩ := List.mem_map.mp hr
    have o := rows_ok ho r0 h0
    refine ⟨fun z => ?_, ?_, fun z hz => ?_⟩
    · have := o.l1
      unfold markR at z
      rw [List.map_eq_nil_iff.mp z] at this
      cases this
    · have := o.l5
      unfold markR
      rw [List.length_map]
      omega
    · obtain ⟨z0, hz0, rfl⟩ := List.mem_map.mp hz
      have h36 := o.w z0 hz0
      have hm := mk_len z0
      refine ⟨by omega, fun c hc => ?_⟩
      rcases mk_mem hc with h | rfl
      · exact (o.c z0 hz0 c h).2
      · decide
  · unfold wordsM
    rw [List.length_map]
    omega
theorem words_row {L : List Nat} {rs : List Rule} {es : List Exc} (ho : BookOk L rs es) : ∀ r ∈ wordsM L rs es, r.length ≤ 5 ∧ ∀ z ∈ r, z.length ≤ 37 ∧ ∀ c ∈ z, c ≠ 32 ∧ c ≠ 10 ∧ c < 256 := fun r hr => by
  obtain ⟨r0, h0, rfl⟩ := List.mem_map.mp hr
  have o := rows_ok ho r0 h0
  refine ⟨?_, fun z hz => ?_⟩
  · have := o.l5
    unfold markR
    rw [List.length_map]
    omega
  · obtain ⟨z0, hz0, rfl⟩ := List.mem_map.mp hz
    have h36 := o.w z0 hz0
    have hm := mk_len z0
    refine ⟨by omega, fun c hc => ?_⟩
    rcases mk_mem hc with h | rfl
    · exact (o.c z0 hz0 c h).2
    · decide
theorem text_words (L : List Nat) (rs : List Rule) (es : List Exc) : textM L rs es = textN (wordsM L rs es) := rfl
end Say
namespace Say
open PySem PySem.Spec PyProof.Rows L2
/-! ### a reader of one's own: which rows stand -/
theorem row_at {rows : List (List (List Nat))} {n : Nat} {r : List (List Nat)} (h : rows[n]? = some r) : rows.getD n [] = r := by rw [List.getD_eq_getElem?_getD, h]; rfl
theorem ok_of {rows : List (List (List Nat))} {n : Nat} (h : n < rows.length) (b : ¬ badRow rows n) : rowOk rows n := Classical.byContradiction fun c => b ⟨h, c⟩
theorem last_pos {rows : List (List (List Nat))} {n : Nat} (h : n < rows.length) (hb : ∀ m, m < n + 1 → ¬ badRow rows m) : lastH rows (n + 1) = kwL ∨ lastH rows (n + 1) = kwR ∨ lastH rows (n + 1) = kwW := by
  have ok := ok_of h (hb n (Nat.lt_succ_self n))
  have lk := last_key (n := n) (by omega) fun m hm => hb m (by omega)
  have h2 := ok.2
  rw [List.contains_iff_mem] at h2
  have : ∀ l ∈ keysN, ∀ y ∈ follM l, y = kwL ∨ y = kwR ∨ y = kwW := by decide +kernel
  exact this _ lk _ h2
theorem things_snoc {rows : List (List (List Nat))} {n : Nat} {r : List (List Nat)} (h : rows[n]? = some r) (k : List Nat) : thingsM (rows.take (n + 1)) k = thingsM (rows.take n) k ++ (if hdR r = k then [r.tail.map umE] else []) := by
  have := take_filter_map h (fun r => decide (hdR r = k)) (fun r => r.tail.map umE)
  unfold thingsM
  rw [this]
  by_cases c : hdR r = k
  · rw [if_pos c, if_pos (decide_eq_true c)]
  · rw [if_neg c, if_neg (by rw [decide_eq_false c]; exact Bool.false_ne_true)]
theorem no_words {rows : List (List (List Nat))} : ∀ {n : Nat}, n ≤ rows.length → (∀ m, m < n → ¬ badRow rows m) → (thingsM (rows.take n) kwW = [] ↔ lastH rows n ≠ kwW)
  | 0, _, _ => ⟨fun _ => by show ([] : List Nat) ≠ kwW; decide, fun _ => rfl⟩
  | n + 1, h, hb => by
    have ih := no_words (n := n) (by omega) fun m hm => hb m (by omega)
    have ok := ok_of (n := n) (by omega) (hb n (Nat.lt_succ_self n))
    obtain ⟨r, hr⟩ : ∃ r, rows[n]? = some r := ⟨_, List.getElem?_eq_getElem (by omega)⟩
    rw [things_snoc hr, show lastH rows (n + 1) = hdR r by show hdR (rows.getD n []) = _; rw [row_at hr], List.append_eq_nil_iff]
    have h2 := ok.2
    rw [row_at hr, List.contains_iff_mem] at h2
    constructor
    · rintro ⟨_, c⟩ z
      rw [if_pos z] at c
      cases c
    · intro c
      rw [if_neg c]
      refine ⟨ih.mpr fun z => ?_, rfl⟩
      rw [z] at h2
      exact c (by have : ∀ y ∈ follM kwW, y = kwW := by decide +kernel
                  exact this _ h2)
theorem no_empty {r : List (List Nat)} (hr : r ≠ []) (h : hdR r ≠ []) : (!r.contains []) = !r.tail.contains [] := by
  cases r with
  | nil => exact absurd rfl hr
  | cons a z =>
    show (!((a :: z).contains [])) = !z.contains []
    rw [List.contains_cons, show (([] : List Nat) == a) = false from beq_false_of_ne fun e => h e.symm]
    rfl
theorem tail_len {r : List (List Nat)} (hr : r ≠ []) : r.length = r.tail.length + 1 := by
  cases r with
  | nil => exact absurd rfl hr
  | cons a z => rfl
theorem row_iff {rows : List (List (List Nat))} {n : Nat} {r : List (List Nat)} (hr : rows[n]? = some r) (hne : r ≠ []) : rowOk rows n ↔ (sizeV (hdR r) = .int ((r.tail.length + 1 : Nat)) ∧ (!r.tail.contains []) = true ∧ hdR r ∈ follM (lastH rows n)) := by
  unfold rowOk isRowM
  rw [row_at hr, Bool.and_eq_true, decide_eq_true_eq, List.contains_iff_mem, ← tail_len hne]
  constructor
  · rintro ⟨⟨a, b⟩, c⟩
    refine ⟨b, ?_, c⟩
    rw [← no_empty hne fun z => by rw [z] at b; cases b]
    exact a
  · rintro ⟨b, a, c⟩
    refine ⟨⟨?_, b⟩, c⟩
    rw [no_empty hne fun z => by rw [z] at b; cases b]
    exact a
theorem row_first {rows : List (List (List Nat))} {r : List (List Nat)} (hr : rows[0]? = some r) (hne : r ≠ []) : rowOk rows 0 ↔ ((!r.tail.contains []) && (decide (hdR r = kwL) && decide (r.tail.length = 1))) = true := by
  rw [row_iff hr hne, Bool.and_eq_true, Bool.and_eq_true, decide_eq_true_eq, decide_eq_true_eq]
  constructor
  · rintro ⟨a, b, c⟩
    have c : hdR r = kwL := List.mem_singleton.mp c
    rw [c] at a
    have a : V.int 2 = V.int ((r.tail.length + 1 : Nat)) := a
    have := V.int.inj a
    exact ⟨b, c, by omega⟩
  · rintro ⟨b, c, a⟩
    refine ⟨?_, b, List.mem_singleton.mpr c⟩
    rw [c, a]
    rfl
theorem row_rule {rows : List (List (List Nat))} {n : Nat} {r : List (List Nat)} (hr : rows[n + 1]? = some r) (hne : r ≠ []) (hb : ∀ m, m < n + 1 → ¬ badRow rows m) (hd : hdR r = kwR) :
    rowOk rows (n + 1) ↔ ((!r.tail.contains []) && (decide (r.tail.length = 4) && decide (thingsM (rows.take (n + 1)) kwW = []))) = true := by
  have hn : n + 1 < rows.length := (List.getElem?_eq_some_iff.mp hr).1
  rw [row_iff hr hne, Bool.and_eq_true, Bool.and_eq_true, decide_eq_true_eq, decide_eq_true_eq, no_words (by omega) hb, hd]
  have lp := last_pos (n := n) (by omega) hb
  generalize lastH rows (n + 1) = la at lp
  constructor
  · rintro ⟨a, b, c⟩
    have a : V.int 5 = V.int ((r.tail.length + 1 : Nat)) := a
    have := V.int.inj a
    refine ⟨b, by omega, fun z => ?_⟩
    rw [z] at c
    exact absurd c (by decide)
  · rintro ⟨b, a, c⟩
    refine ⟨by rw [a]; rfl, b, ?_⟩
    rcases lp with rfl | rfl | rfl
    · decide
    · decide
    · exact absurd rfl c
theorem row_word {rows : List (List (List Nat))} {n : Nat} {r : List (List Nat)} (hr : rows[n + 1]? = some r) (hne : r ≠ []) (hb : ∀ m, m < n + 1 → ¬ badRow rows m) (hd : hdR r ≠ kwR) :
    rowOk rows (n + 1) ↔ ((!r.tail.contains []) && (decide (hdR r = kwW) && decide (r.tail.length = 2))) = true := by
  have hn : n + 1 < rows.length := (List.getElem?_eq_some_iff.mp hr).1
  rw [row_iff hr hne, Bool.and_eq_true, Bool.and_eq_true, decide_eq_true_eq, decide_eq_true_eq]
  have lp := last_pos (n := n) (by omega) hb
  generalize lastH rows (n + 1) = la at lp
  constructor
  · rintro ⟨a, b, c⟩
    have e : hdR r = kwW := by
      have : ∀ l ∈ [kwL, kwR, kwW], ∀ y ∈ follM l, y = kwR ∨ y = kwW := by decide +kernel
      exact (this la (by simpa using lp) _ c).resolve_left hd
    rw [e] at a
    have a : V.int 3 = V.int ((r.tail.length + 1 : Nat)) := a
    have := V.int.inj a
    exact ⟨b, e, by omega⟩
  · rintro ⟨b, c, a⟩
    refine ⟨by rw [c, a]; rfl, b, ?_⟩
    rw [c]
    rcases lp with rfl | rfl | rfl <;> decide
end Say
namespace Say
open PySem PySem.Spec PyProof.Rows L2
section
variable {P : Program} {w : World} {K : PySem.W.Frag} {mg : Str → Option Value} {base : Heap}
abbrev sLRd : Stmt := topS 60
abbrev nLRd : List Str := ["_law_text_here", "_law_lines", "_law_rules_here", "_law_exceptions_here", "_law_k", "_law_head", "_law_rest", "_law_good", "_law_line", "_law_word_here"]
theorem scLRd : FnScope nLRd ["_law_text_here"] (defScope sLRd) := ⟨rfl, rfl, rfl, by decide +kernel, rfl, by decide +kernel, by decide +kernel⟩
abbrev stRd : List Stmt := match defBody sLRd with | _ :: _ :: .For _ _ (_ :: _ :: _ :: t) _ _ :: _ => t | _ => []
def spLRd (K : PySem.W.Frag) : Sp := fun vs H Q _ => ∃ rows : List (List (List Nat)), vs = [.str (T (textN rows))] ∧ RowsP rows ∧
  (∀ (n : Nat) (t : Addr) (H' : Hp), badRow rows n → (∀ m, m < n → ¬ badRow rows m) → Same H H' → H' t = some (.tup [.str "text", .int n]) → Q (.ref t) H') ∧
  ((∀ n, ¬ badRow rows n) → ∀ (t b : Addr) (z : List Nat) (H' : Hp), Same H H' → rows[0]? = some [kwL, z] → H' t = some (.tup [.str "", .ref b]) → NoteAt H' b z (thingsM rows kwR) (thingsM rows kwW) → Q (.ref t) H')
theorem texts_nil {K : PySem.W.Frag} {H : Hp} {ts : List Addr} {rr : List (List (List Nat))} {X e : Addr} (hX : H X = some (.lst (ts.map V.ref))) (he : H e = some (.lst [])) (p : TRows H ts rr) (hs : ∀ r ∈ rr, ∀ z ∈ r, ∀ c ∈ z, c < 1114112) :
    ∃ d, Dp K H (.ref X) d ∧ Dp K H (.ref e) (.list []) ∧ SeqAt.shaped d = true ∧ SeqAt.shaped (.list []) = true ∧ PyData.eqv d (.list []) = decide (rr = []) := by
  have dp : DpAll K H (ts.map V.ref) (rr.map fun r => .tuple (r.map fun z => .str (T z))) := by
    clear hX hs
    unfold TRows at p
    induction p with
    | nil => exact .nil
    | cons a _ ih => exact .cons (.tup (.inl (.inl a)) (dp_strs _)) ih
  have lay : PyData.canLayAll0 (rr.map fun r => .tuple (r.map fun z => PyData.str (T z))) = true ∧ PyData.depthAll (rr.map fun r => .tuple (r.map fun z => PyData.str (T z))) ≤ 1 := by
    clear p dp
    induction rr with
    | nil => exact ⟨rfl, Nat.zero_le _⟩
    | cons r rr ih =>
      obtain ⟨h1, h2⟩ := ih fun x hx => hs x (List.mem_cons_of_mem _ hx)
      obtain ⟨g1, g2⟩ := lay_texts (hs r (List.mem_cons_self ..))
      constructor
      · show (PyData.canLayAll0 (r.map fun z => PyData.str (T z)) && PyData.canLayAll0 (rr.map fun r => .tuple (r.map fun z => PyData.str (T z)))) = true
        rw [g1, h1]
        rfl
      · show max (PyData.depthAll (r.map fun z => PyData.str (T z)) + 1) (PyData.depthAll (rr.map fun r => .tuple (r.map fun z => PyData.str (T z)))) ≤ 1
        omega
  refine ⟨.list (rr.map fun r => .tuple (r.map fun z => .str (T z))), .lst (.inl (.inl hX)) dp, .lst (.inl (.inl he)) .nil, ?_, by decide +kernel, by cases rr <;> rfl⟩
  unfold SeqAt.shaped
  rw [Bool.and_eq_true]
  refine ⟨lay.1, decide_eq_true ?_⟩
  show PyData.depthAll _ + 1 ≤ 64
  have := lay.2
  omega
theorem things_sign {rows : List (List (List Nat))} (h : RowsP rows) (n : Nat) (k : List Nat) : ∀ r ∈ thingsM (rows.take n) k, ∀ z ∈ r, ∀ c ∈ z, c < 1114112 := fun r hr z hz c hc => by
  unfold thingsM at hr
  obtain ⟨r0, h0, rfl⟩ := List.mem_map.mp hr
  obtain ⟨z0, hz0, rfl⟩ := List.mem_map.mp hz
  have := ((h.r r0 (List.mem_of_mem_take (List.mem_filter.mp h0).1)).2.2 z0 (List.mem_of_mem_tail hz0)).2
  unfold umE at hc
  by_cases e : z0 = [45]
  · rw [if_pos e] at hc; cases hc
  · rw [if_neg e] at hc; have := (this c hc).2.2; omega
theorem t_and3 {tb tc : TE} {σ : L2.St} {H : Hp} {Q : VK} {a b c : Bool} {i : Nat} (h7 : σ[i]? = some (some (.bl a))) (hb : ∀ Q' : VK, Q' (.bl b) H → tb σ H Q') (hc : ∀ Q' : VK, (∀ H', Same H H' → Q' (.bl c) H') → tc σ H Q')
    (q : ∀ H', Same H H' → Q (.bl (a && (b && c))) H') : tAndV (tVar i) (tAndV tb tc) σ H Q := by
  refine ⟨_, h7, a, rfl, ?_⟩
  cases a with
  | false => exact iteF (q H (Same.refl H))
  | true =>
    refine iteT (hb _ ⟨b, rfl, ?_⟩)
    cases b with
    | false => exact iteF (q H (Same.refl H))
    | true => exact iteT (hc _ q)
theorem ok_LRd {f : Addr} {fd : FuncData} (F : Fun K "_law_read" "_law_read" sLRd f fd) (B : Bn mg) : FnOk P w K mg base CX0 1 f fd ["_law_text_here"] (spLRd K) := by
  refine F.ok scLRd (fun vs H Q E h => ?_) (fun cdv A outer s H vs Q E hr h => ?_)
  · obtain ⟨rows, rfl, _⟩ := h
    rfl
  · obtain ⟨rows, rfl, ho, qB, qG⟩ := h
    have hl := ho.l
    have tl := ho.text
    obtain ⟨tR, psR, qR⟩ : ∃ tR : TS, PSs (cxOf CX0 P w K mg base nLRd "_law_read" (defScope sLRd) f cdv A outer s H E).nox stRd tR ∧
        ∀ (C : Ends) (σ : List (Option V)) (k : Nat) (g : Bool) (H1 : Hp), σ[4]? = some (some (.int (k : Nat))) → σ[7]? = some (some (.bl g)) → (g = true → C.nx σ H1) → (g = false → ∀ (t : Addr) (H' : Hp), Same H1 H' → H' t = some (.tup [.str "text", .int k]) → C.rt (.ref t) H') → tR C σ H1 := by
      refine ⟨_, (pss_one (ps_if (pt_not (pt_val (pv 7))) (pss_one (ps_ret (pe_tup (pa_cons pe_str (pa_cons (pv 4) pa_nil))))) pss_nil)), ?_⟩
      intro C σ k g H1 h4 h7 n1 n2
      refine ⟨_, h7, g, rfl, ?_⟩
      cases g with
      | true => exact iteF (n1 rfl)
      | false =>
        refine iteT ⟨_, h4, (by show 2 ≤ sizeLine; decide), fun t ht => ?_⟩
        exact n2 rfl t _ (same_new ht _) upd_same
    refine ⟨_, pss_cons (ps_setLc (i := 1) (own := [("_law_line", 8)]) (g := gName 8) rfl scLRd.nd rfl rfl (sw_true rfl rfl rfl (by decide +kernel)) (pi_list (pe_split (pv 0) pe_str)) (blkOk_by (N := nLRd) (sc := defScope sLRd) (by decide +kernel)) (fun _ _ _ _ _ => pg_name (i := 8) scLRd.nd rfl (.inl rfl)) (fun _ _ _ _ _ => pts_nil) (fun _ _ _ _ _ => pe_split (pv 8) pe_str))
      (pss_cons (ps_par (i := 2) (j := 3) (by rfl) scLRd.nd rfl rfl (by decide) rfl rfl (pa_cons (pe_lst pa_nil) (pa_cons (pe_lst pa_nil) pa_nil)) (by rfl))
      (pss_cons (ps_for PassesOwn.never rfl (pi_range1 (by rfl) B.rng (pa_cons (pe_callB call_len (by rfl) B.len PySem.boot_len (pa_cons (pv 1) pa_nil)) pa_nil)) (pg_name (i := 4) scLRd.nd rfl (.inl rfl)) (pss_cons (ps_par (i := 5) (j := 6) (by rfl) scLRd.nd rfl rfl (by decide) rfl rfl (pa_cons (pe_ix ix_list (pe_ix ix_list (pv 1) (pv 4) (fun _ _ => rfl)) pe_int (fun _ _ => rfl)) (pa_cons (pe_callTy call_tuple_of (by rfl) B.tup (by decide +kernel) (pa_cons (pe_lc (own := [("_law_word_here", 9)]) (g := gName 9) (te := tIf (tTest (tOp rNe (tVar 9) (tC (.str "-")))) (tVar 9) (tC (.str ""))) rfl scLRd.nd (pi_list (pe_slice sl_list (pe_ix ix_list (pv 1) (pv 4) (fun _ _ => rfl)) (po_some pe_int) po_none)) (blkOk_by (N := nLRd) (sc := defScope sLRd) (by decide +kernel)) (fun _ _ _ _ _ => pg_name (i := 9) scLRd.nd rfl (.inl rfl)) (fun _ _ _ _ _ => pts_nil) (fun _ _ _ _ _ => (pe_ifExp (pt_cmpR op_ne (pv 9) pe_str (nomark _)) (pv 9) pe_str))) pa_nil)) pa_nil)) (by rfl)) (pss_cons (ps_set (i := 7) scLRd.nd rfl (.inl rfl) (pe_cmpR op_notIn_seq pe_str (pe_slice sl_list (pe_ix ix_list (pv 1) (pv 4) (fun _ _ => rfl)) (po_some pe_int) po_none) rfl)) (pss_cons (ps_if (pt_cmpR op_eq (pv 4) pe_int (nomark _)) (pss_one (ps_set (i := 7) scLRd.nd rfl (.inl rfl) (pe_and (pv 7) (pe_and (pe_cmpR op_eq (pv 5) pe_str (nomark _)) (pe_one (pe_cmpR op_eq (pe_callB call_len (by rfl) B.len PySem.boot_len (pa_cons (pv 6) pa_nil)) pe_int (nomark _))))))) (pss_one (ps_if (pt_cmpR op_eq (pv 5) pe_str (nomark _)) (pss_cons (ps_set (i := 7) scLRd.nd rfl (.inl rfl) (pe_and (pv 7) (pe_and (pe_cmpR op_eq (pe_callB call_len (by rfl) B.len PySem.boot_len (pa_cons (pv 6) pa_nil)) pe_int (nomark _)) (pe_one (pe_cmpR (op_eqD hr.units) (pv 3) (pe_lst pa_nil) (nomark _))))))
          (pss_one (ps_expr (pe_bm PySem.F.plainAttrs_list PySem.F.slot_list_append PySem.F.type_list_append mt_append (pv 2) (pa_cons (pv 6) pa_nil))))) (pss_cons (ps_set (i := 7) scLRd.nd rfl (.inl rfl) (pe_and (pv 7) (pe_and (pe_cmpR op_eq (pv 5) pe_str (nomark _)) (pe_one (pe_cmpR op_eq (pe_callB call_len (by rfl) B.len PySem.boot_len (pa_cons (pv 6) pa_nil)) pe_int (nomark _))))))
          (pss_one (ps_expr (pe_bm PySem.F.plainAttrs_list PySem.F.slot_list_append PySem.F.type_list_append mt_append (pv 3) (pa_cons (pv 6) pa_nil)))))))) psR))))
      (pss_one (ps_ret (pe_tup (pa_cons pe_str (pa_cons (pe_tup (pa_cons (pe_ix ix_list (pe_ix ix_list (pv 1) pe_int (fun _ _ => rfl)) pe_int (fun _ _ => rfl)) (pa_cons (pe_callTy call_tuple_of (by rfl) B.tup (by decide +kernel) (pa_cons (pv 2) pa_nil)) (pa_cons (pe_callTy call_tuple_of (by rfl) B.tup (by decide +kernel) (pa_cons (pv 3) pa_nil)) pa_nil)))) pa_nil))))))), ?_⟩
    refine ⟨_, rfl, ⟨_, rfl⟩, _, _, rfl, rfl, (by decide +kernel), (by rw [T_len]; exact small (by omega)), fun W hW => ?_⟩
    rw [nl_eq, ho.split]
    have sW := same_new hW (.lst (((rows.map lineM).map T).map V.str))
    have hW1 : (upd H W (.lst (((rows.map lineM).map T).map V.str))) W = some (.lst (((rows.map lineM).map T).map V.str)) := upd_same
    generalize upd H W (.lst (((rows.map lineM).map T).map V.str)) = H1 at sW hW1 ⊢
    refine ⟨W, rfl, ⟨_, .inl (.inl hW1)⟩, fun D hD => ?_⟩
    refine rows_lc ho hW1 hD (fun _ => rfl) (fun _ => rfl) fun H2 s2 LR2 => ?_
    have s02 := sW.trans s2
    simp only [List.set_cons_succ, List.set_cons_zero]
    refine ⟨(by show 0 ≤ sizeLine; decide), fun Ra hRa => ?_⟩
    obtain ⟨H3, e3, s3, g3⟩ := new_at hRa (.lst [])
    rw [e3]
    refine ⟨(by show 0 ≤ sizeLine; decide), fun Xa hXa => ?_⟩
    obtain ⟨H4, e4, s4, g4⟩ := new_at hXa (.lst [])
    rw [e4]
    have nRX : Ra ≠ Xa := fun e => by rw [e, hXa] at g3; cases g3
    have hXa2 : H2 Xa = none := s3.free hXa
    refine ⟨_, _, rfl, ?_⟩
    simp only [List.set_cons_succ, List.set_cons_zero]
    obtain ⟨ts, hD2, pr⟩ := id LR2
    have hlt : (ts.map V.ref).length = rows.length := by rw [List.length_map, paired_len pr]
    refine ⟨_, rfl, _, _, rfl, .inl ⟨_, .inl (.inl ((s3.trans s4) _ _ hD2)), rfl⟩, _, rfl, by omega, by omega, ?_⟩
    refine for_it (walk_range) (fun i σ HX => (∃ v4 v5 v6 v7 : Option V, σ = [some (.str (T (textN rows))), some (.ref D), some (.ref Ra), some (.ref Xa), v4, v5, v6, v7, none, none]) ∧ Same H2 HX ∧ (∃ tR : List Addr, HX Ra = some (.lst (tR.map V.ref)) ∧ TRows HX tR (thingsM (rows.take i) kwR)) ∧
        (∃ tX : List Addr, HX Xa = some (.lst (tX.map V.ref)) ∧ TRows HX tX (thingsM (rows.take i) kwW)) ∧ ∀ m, m < i → ¬ badRow rows m)
      ⟨⟨_, _, _, _, rfl⟩, s3.trans s4, ⟨[], s4 _ _ g3, .nil⟩, ⟨[], g4, .nil⟩, fun m h => nomatch h⟩ (fun _ _ _ _ _ => trivial) ?_ ?_
    · rintro k x σ HX HX' hk ⟨⟨v4, v5, v6, v7, rfl⟩, sX, ⟨tR, hR, pR⟩, ⟨tX, hX, pX⟩, hb⟩ ⟨rfl, hx⟩
      have hx : x = V.int ((0 : Int) + (k : Nat)) := hx
      rw [Int.zero_add] at hx
      subst hx
      have hkr : k < rows.length := by omega
      obtain ⟨r, hr⟩ : ∃ r, rows[k]? = some r := ⟨_, List.getElem?_eq_getElem hkr⟩
      obtain ⟨t, ht, hat⟩ := paired_at' pr hr
      have xt : (ts.map V.ref)[k]? = some (.ref t) := by rw [List.getElem?_map, ht]; rfl
      have rp := ho.r r (List.mem_of_getElem? hr)
      have hne := rp.1
      have r90 := rp.2.1
      have hDX := sX _ _ hD2
      have hatX := sX _ _ hat
      simp only [List.set_cons_succ, List.set_cons_zero]
      -- head, rest
      refine ⟨_, rfl, _, rfl, D, _, (k : Int), .ref t, rfl, rfl, .inl (.inl hDX), atI_nat xt, t, _, 0, .str (T (hdR r)), rfl, rfl, .inl (.inl hatX), atI_nat (j := 0) (strV_at (hd_at hne)), ?_⟩
      refine ⟨_, rfl, _, rfl, D, _, (k : Int), .ref t, rfl, rfl, .inl (.inl hDX), atI_nat xt, _, rfl, t, _, rfl, .inl (.inl hatX), fun S hS => ?_⟩
      rw [cut_tail, strV_tail]
      obtain ⟨H5, e5, s5, g5⟩ := new_at hS (.lst (strV r.tail))
      rw [e5]
      refine ⟨S, rfl, ⟨_, .inl (.inl g5)⟩, fun D3 hD3 => ?_⟩
      refine lc_it (walk_list (xs := strV r.tail)) (fun j HZ => HZ D3 = some (.lst (strV ((r.tail.take j).map umE))) ∧ Same H5 HZ) ⟨upd_same, same_new hD3 _⟩ (fun j HZ _ h => .inl (.inl (h.2 _ _ g5))) ?_ ?_
      · rintro j x HZ HZ' hj ⟨f1, f3⟩ ⟨rfl, hx⟩
        unfold strV at hx
        rw [List.map_map, List.getElem?_map] at hx
        obtain ⟨z, hz, e⟩ := Option.map_eq_some_iff.mp hx
        subst e
        have app : ∀ y : V, y = .str (T (umE z)) → ∃ acc, HZ' D3 = some (.lst acc) ∧ acc.length < sizeLine ∧ ((upd HZ' D3 (.lst (acc ++ [y]))) D3 = some (.lst (strV ((r.tail.take (j + 1)).map umE))) ∧ Same H5 (upd HZ' D3 (.lst (acc ++ [y])))) := fun y hy => by
          subst hy
          refine ⟨_, f1, ?_, ?_, fun c u hc => ?_⟩
          · have h2 := List.length_tail (l := r)
            rw [strV_len, List.length_map, List.length_take]
            exact small1000 (by omega)
          · rw [upd_same, take_snoc hz]
            unfold strV
            rw [List.map_append, List.map_append, List.map_append]
            rfl
          · rw [upd_ne (ne_of_none hc hD3)]
            exact f3 _ _ hc
        refine ⟨rfl, _, rfl, rfl, _, rfl, ?_⟩
        rw [show (V.str "-") = V.str (T [45]) from congrArg V.str dash_eq]
        refine ite2 (fun c => ?_) (fun c => ?_)
        · have c : decide (V.str (T z) = V.str (T [45])) = false := by simpa using c
          have c := of_decide_eq_false c
          refine ⟨_, rfl, app _ ?_⟩
          unfold umE
          rw [if_neg fun e => c (by rw [e])]
          rfl
        · have c : decide (V.str (T z) = V.str (T [45])) = true := by simpa using c
          have c := T_inj (V.str.inj (of_decide_eq_true c))
          refine app _ ?_
          unfold umE
          rw [if_pos c, ← nil_eq]
      rintro H6 ⟨g6, s6⟩
      rw [strV_len, List.take_length] at g6
      refine ⟨D3, _, rfl, .inl ⟨.inl (.inl g6), fun Z hZ => ?_⟩⟩
      obtain ⟨H7, e7, s7, g7⟩ := new_at hZ (.tup (strV (r.tail.map umE)))
      rw [e7]
      refine ⟨_, _, rfl, ?_⟩
      simp only [List.set_cons_succ, List.set_cons_zero]
      have s57 := s5.trans (s6.trans s7)
      have hDX := s57 _ _ hDX
      have hatX := s57 _ _ hatX
      -- good
      refine ⟨_, rfl, _, rfl, D, _, (k : Int), .ref t, rfl, rfl, .inl (.inl hDX), atI_nat xt, _, rfl, t, _, rfl, .inl (.inl hatX), fun S2 hS2 => ?_⟩
      rw [cut_tail, strV_tail]
      obtain ⟨H8, e8, s8, g8⟩ := new_at hS2 (.lst (strV r.tail))
      rw [e8]
      refine ⟨S2, _, rfl, .inl (.inl (.inl g8)), rfl, strV_flat _, ?_⟩
      rw [show (V.str "") = V.str (T []) from congrArg V.str nil_eq, inV_str]
      simp only [List.set_cons_succ, List.set_cons_zero]
      have sX8 : Same HX' H8 := s57.trans s8
      have hRE := sX8 _ _ hR
      have hXE := sX8 _ _ hX
      have pRE := pR.same sX8
      have pXE := pX.same sX8
      have hZE := s8 _ _ g7
      have sE := sX.trans sX8
      have lz : ((r.tail.map umE).length : Int) = (r.tail.length : Nat) := by rw [List.length_map]
      have bad : ∀ (H' : Hp) (g : Bool), Same H2 H' → (rowOk rows k ↔ g = true) → g = false → ∀ (t : Addr) (H9 : Hp), Same H' H9 → H9 t = some (.tup [.str "text", .int k]) → Q (.ref t) H9 := fun H' g s' gi ge t H9 s9 ht => by
        refine qB k t H9 ⟨hkr, fun z => ?_⟩ hb ((s02.trans s').trans s9) ht
        rw [gi.mp z] at ge
        cases ge
      have okk : rowOk rows k → ∀ m, m < k + 1 → ¬ badRow rows m := fun o m hm => by
        rcases Nat.lt_or_eq_of_le (Nat.le_of_lt_succ hm) with h | h
        · exact hb m h
        · rw [h]; exact fun z => z.2 o
      have kw : ∀ {a : Str} {b : List Nat}, a = T b → decide (V.str (T (hdR r)) = V.str a) = decide (hdR r = b) := fun e => by rw [e, eqT]
      have lenZ : ∀ (n : Nat) (H9 : Hp) (Q' : VK), H9 Z = some (.tup (strV (r.tail.map umE))) → Q' (.bl (decide (r.tail.length = n))) H9 → ∃ x m, [V.ref Z] = [x] ∧ LenV K x H9 m ∧ (scal (.int (m : Nat)) (.int (n : Nat)) = true ∧ Q' (.bl (decide (V.int (m : Nat) = V.int (n : Nat)))) H9) := fun n H9 Q' h9 q' => by
        refine ⟨.ref Z, (strV (r.tail.map umE)).length, rfl, .inr ⟨_, .inl (.inl h9), rfl⟩, rfl, ?_⟩
        rw [strV_len, List.length_map, show decide (V.int (r.tail.length : Nat) = V.int (n : Nat)) = decide (r.tail.length = n) from decide_eq_decide.mpr ⟨fun z => by have := V.int.inj z; omega, fun z => by rw [z]⟩]
        exact q'
      refine ⟨_, rfl, rfl, _, rfl, ite2 (fun c0 => ?_) (fun c0 => ?_)⟩
      · -- the first row
        have c0 : k = 0 := by have := V.int.inj (of_decide_eq_true c0); omega
        subst c0
        refine t_and3 (b := decide (hdR r = kwL)) (c := decide (r.tail.length = 1)) rfl (fun Q' q' => ⟨_, rfl, rfl, by rw [kw kwL_eq]; exact q'⟩) (fun Q' q' => ⟨_, rfl, lenZ 1 H8 Q' hZE (q' H8 (Same.refl H8))⟩) fun H9 s9 => ?_
        simp only [List.set_cons_succ, List.set_cons_zero]
        have gi := row_first hr hne
        refine qR _ _ 0 _ H9 rfl rfl (fun ge => ?_) (fun ge => bad H9 _ (sE.trans s9) gi ge)
        have o := gi.mpr ge
        have hd : hdR r = kwL := by
          have := ((row_iff hr hne).mp o).2.2
          exact List.mem_singleton.mp this
        refine ⟨⟨_, _, _, _, rfl⟩, sE.trans s9, ⟨tR, s9 _ _ hRE, ?_⟩, ⟨tX, s9 _ _ hXE, ?_⟩, okk o⟩
        · rw [things_snoc hr, hd, if_neg (by decide), List.append_nil]
          exact pRE.same s9
        · rw [things_snoc hr, hd, if_neg (by decide), List.append_nil]
          exact pXE.same s9
      have hk0 : k ≠ 0 := fun z => by rw [z] at c0; simp at c0
      obtain ⟨n, rfl⟩ : ∃ n, k = n + 1 := ⟨k - 1, by omega⟩
      have lR : tR.length ≤ 90 := by rw [paired_len pR]; exact Nat.le_trans (by unfold thingsM; rw [List.length_map]; exact Nat.le_trans (List.length_filter_le _ _) (List.length_take_le' _ _)) hl
      have lX : tX.length ≤ 90 := by rw [paired_len pX]; exact Nat.le_trans (by unfold thingsM; rw [List.length_map]; exact Nat.le_trans (List.length_filter_le _ _) (List.length_take_le' _ _)) hl
      refine ⟨_, rfl, rfl, _, rfl, ?_⟩
      rw [kw kwR_eq]
      refine ite2 (fun c1 => ?_) (fun c1 => ?_)
      · -- a rule
        have hd : hdR r = kwR := of_decide_eq_true c1
        refine t_and3 (b := decide (r.tail.length = 4)) (c := decide (thingsM (rows.take (n + 1)) kwW = [])) rfl (fun Q' q' => ⟨_, rfl, lenZ 4 H8 Q' hZE q'⟩) (fun Q' q' => ?_) fun H9 s9 => ?_
        · refine ⟨_, rfl, (by show 0 ≤ sizeLine; decide), fun e0 he0 => ?_⟩
          obtain ⟨HN, eN, sN, gN⟩ := new_at he0 (.lst [])
          rw [eN]
          obtain ⟨d, d1, d2, d3, d4, d5⟩ := texts_nil (K := K) (sN _ _ hXE) gN (pXE.same sN) (things_sign ho (n + 1) kwW)
          refine ⟨d, _, d1, d2, d3, d4, ?_⟩
          rw [d5]
          exact q' HN sN
        simp only [List.set_cons_succ, List.set_cons_zero]
        have gi := row_rule hr hne hb hd
        have hR9 := s9 _ _ hRE
        refine ⟨_, rfl, .inl ⟨rfl, _, .inl (.inl hR9)⟩, _, rfl, Ra, _, _, rfl, rfl, hR9, by rw [List.length_map]; exact small1000 (by omega), ?_⟩
        have kt := kt_upd hR9 (o := .lst (tR.map V.ref ++ [.ref Z]))
        have sU : Same H2 (upd H9 Ra (.lst (tR.map V.ref ++ [.ref Z]))) := fun c u hc => by
          rw [upd_ne (ne_of_none hc hRa)]
          exact (sE.trans s9) _ _ hc
        refine qR _ _ (n + 1) _ _ rfl rfl (fun ge => ?_) (fun ge => bad _ _ sU gi ge)
        have o := gi.mpr ge
        refine ⟨⟨_, _, _, _, rfl⟩, sU, ⟨tR ++ [Z], ?_, ?_⟩, ⟨tX, ?_, ?_⟩, okk o⟩
        · rw [upd_same, List.map_append]; rfl
        · rw [things_snoc hr, hd, if_pos rfl]
          exact paired_app (paired_mono (fun _ _ h => kt.1 _ _ (s9 _ _ h)) pRE) (.cons (kt.1 _ _ (s9 _ _ hZE)) .nil)
        · rw [upd_ne (Ne.symm nRX)]; exact s9 _ _ hXE
        · rw [things_snoc hr, hd, if_neg (by decide), List.append_nil]
          exact paired_mono (fun _ _ h => kt.1 _ _ (s9 _ _ h)) pXE
      · -- an exception, or none of both
        have hd : hdR r ≠ kwR := fun z => c1 (decide_eq_true z)
        refine t_and3 (b := decide (hdR r = kwW)) (c := decide (r.tail.length = 2)) rfl (fun Q' q' => ⟨_, rfl, rfl, by rw [kw kwW_eq]; exact q'⟩) (fun Q' q' => ⟨_, rfl, lenZ 2 H8 Q' hZE (q' H8 (Same.refl H8))⟩) fun H9 s9 => ?_
        simp only [List.set_cons_succ, List.set_cons_zero]
        have gi := row_word hr hne hb hd
        have hX9 := s9 _ _ hXE
        refine ⟨_, rfl, .inl ⟨rfl, _, .inl (.inl hX9)⟩, _, rfl, Xa, _, _, rfl, rfl, hX9, by rw [List.length_map]; exact small1000 (by omega), ?_⟩
        have kt := kt_upd hX9 (o := .lst (tX.map V.ref ++ [.ref Z]))
        have sU : Same H2 (upd H9 Xa (.lst (tX.map V.ref ++ [.ref Z]))) := fun c u hc => by
          rw [upd_ne (ne_of_none hc hXa2)]
          exact (sE.trans s9) _ _ hc
        refine qR _ _ (n + 1) _ _ rfl rfl (fun ge => ?_) (fun ge => bad _ _ sU gi ge)
        have o := gi.mpr ge
        have hw : hdR r = kwW := by
          rw [Bool.and_eq_true, Bool.and_eq_true, decide_eq_true_eq] at ge
          exact ge.2.1
        refine ⟨⟨_, _, _, _, rfl⟩, sU, ⟨tR, ?_, ?_⟩, ⟨tX ++ [Z], ?_, ?_⟩, okk o⟩
        · rw [upd_ne nRX]; exact s9 _ _ hRE
        · rw [things_snoc hr, if_neg hd, List.append_nil]
          exact paired_mono (fun _ _ h => kt.1 _ _ (s9 _ _ h)) pRE
        · rw [upd_same, List.map_append]; rfl
        · rw [things_snoc hr, hw, if_pos rfl]
          exact paired_app (paired_mono (fun _ _ h => kt.1 _ _ (s9 _ _ h)) pXE) (.cons (kt.1 _ _ (s9 _ _ hZE)) .nil)
    · rintro σ HX ⟨⟨v4, v5, v6, v7, rfl⟩, sX, ⟨tR, hR, pR⟩, ⟨tX, hX, pX⟩, hb⟩
      have all : ∀ n, ¬ badRow rows n := fun n z => hb n (by have := z.1; omega) z
      obtain ⟨z, hz⟩ := row0 ho all
      obtain ⟨t0, ht0, hr0⟩ := paired_at' pr hz
      have x0 : (ts.map V.ref)[0]? = some (.ref t0) := by rw [List.getElem?_map, ht0]; rfl
      rw [List.take_of_length_le (by omega)] at pR pX
      refine ⟨_, rfl, D, _, 0, .ref t0, rfl, rfl, .inl (.inl (sX _ _ hD2)), atI_nat (j := 0) x0, t0, _, 1, .str (T z), rfl, rfl, .inl (.inl (sX _ _ hr0)), atI_nat (j := 1) rfl, ?_⟩
      refine ⟨_, rfl, Ra, _, rfl, .inl ⟨.inl (.inl hR), fun a1 n1 => ?_⟩⟩
      obtain ⟨G1, e1, s1, g1⟩ := new_at n1 (.tup (tR.map V.ref))
      rw [e1]
      refine ⟨_, rfl, Xa, _, rfl, .inl ⟨.inl (.inl (s1 _ _ hX)), fun a2 n2 => ?_⟩⟩
      obtain ⟨G2, e2, s2', g2⟩ := new_at n2 (.tup (tX.map V.ref))
      rw [e2]
      refine ⟨(by show 3 ≤ sizeLine; decide), fun b nb => ?_⟩
      obtain ⟨G3, e3', s3', g3'⟩ := new_at nb (.tup [.str (T z), .ref a1, .ref a2])
      rw [e3']
      refine ⟨(by show 2 ≤ sizeLine; decide), fun t nt => ?_⟩
      obtain ⟨G4, e4', s4', g4'⟩ := new_at nt (.tup [.str "", .ref b])
      rw [e4']
      have sA := s1.trans (s2'.trans (s3'.trans s4'))
      have sB := s2'.trans (s3'.trans s4')
      have sC := s3'.trans s4'
      refine qG all t b z G4 (s02.trans (sX.trans sA)) hz g4' ?_
      exact ⟨a1, a2, tR, tX, s4' _ _ g3', ⟨sB _ _ g1, pR.same sA⟩, sC _ _ g2, pX.same sA⟩
end
end Say
namespace Say
open PySem PySem.Spec PyProof.Rows L2
section
variable {P : Program} {w : World} {K : PySem.W.Frag} {mg : Str → Option Value} {base : Heap}
abbrev sTaken : Stmt := topS 51
theorem scTaken : FnScope ["_law_row_here", "_law_many", "_law_found", "_law_cell"] ["_law_row_here", "_law_many"] (defScope sTaken) := ⟨rfl, rfl, rfl, by decide +kernel, rfl, by decide +kernel, by decide +kernel⟩
theorem fmod_in {x n : Int} (h : 0 < n) : 0 ≤ x.fmod n ∧ x.fmod n < n := ⟨Int.fmod_nonneg_of_pos _ h, Int.fmod_lt_of_pos _ h⟩
theorem ok_taken {f : Addr} {fd : FuncData} {k : Nat} (F : Fun K "_law_taken" "_law_taken" sTaken f fd) (ml : mg "len" = none) : FnOk P w K mg base CX0 (k + 1) f fd ["_law_row_here", "_law_many"] (spTaken K) := by
  refine F.ok scTaken (fun vs H Q E h => ?_) (fun cdv A outer s H vs Q E hr h => ?_)
  · obtain ⟨r, a, ns, n, rfl, _⟩ := h
    rfl
  · obtain ⟨r, a, ns, n, rfl, R, h0, h1, q⟩ := h
    obtain ⟨⟨i, c, m, hR, hi, hm0, hm1⟩, hS, hle⟩ := id R
    refine ⟨_, pss_cons (ps_if (pt_cmpR op_gt (pe_ix ix_list (pv 0) pe_int (fun _ _ => rfl)) pe_int (nomark _))
        (pss_cons (ps_set (i := 2) scTaken.nd rfl (.inl rfl) (pe_op op_modN (pe_ix ix_list (pv 0) pe_int (fun _ _ => rfl)) (pv 1)))
        (pss_cons (ps_asg (pe_op op_fdivN (pe_ix ix_list (pv 0) pe_int (fun _ _ => rfl)) (pv 1)) (pg_sub (pv 0) pe_int set_list))
        (pss_one (ps_ret (pv 2))))) pss_nil)
      (pss_cons (ps_if (pt_cmpR op_lt (pe_ix ix_list (pv 0) pe_int (fun _ _ => rfl)) (pe_callB call_len_seq (by rfl) ml PySem.boot_len (pa_cons (pe_ix ix_list (pv 0) pe_int (fun _ _ => rfl)) pa_nil)) (nomark _))
        (pss_cons (ps_set (i := 3) scTaken.nd rfl (.inl rfl) (pe_ix ix_list (pe_ix ix_list (pv 0) pe_int (fun _ _ => rfl)) (pe_ix ix_list (pv 0) pe_int (fun _ _ => rfl)) (fun _ _ => rfl)))
        (pss_cons (ps_asg (pe_op op_add (pe_ix ix_list (pv 0) pe_int (fun _ _ => rfl)) pe_int) (pg_sub (pv 0) pe_int set_list))
        (pss_cons (ps_if (pt_cmpR op_ge (pv 3) (pe_op op_pow pe_int pe_int) (nomark _))
          (pss_one (ps_asg (pe_op op_fdivN (pv 3) (pv 1)) (pg_sub (pv 0) pe_int set_list))) pss_nil)
        (pss_one (ps_ret (pe_op op_modN (pv 3) (pv 1))))))) pss_nil)
      (pss_cons (ps_asg (pe_op op_modN (pe_op op_add (pe_op op_mul (pe_ix ix_list (pv 0) pe_int (fun _ _ => rfl)) pe_int) pe_int) pe_int) (pg_sub (pv 0) pe_int set_list))
      (pss_one (ps_ret (pe_op op_modN (pe_op op_fdivN (pe_ix ix_list (pv 0) pe_int (fun _ _ => rfl)) pe_int) (pv 1)))))), ?_⟩
    have hL : SqL K H r [.ref a, .int i, .int c, .int m] := .inl (.inl hR)
    have gn : n ≠ 0 ∧ n.natAbs < 1073741824 := ⟨by omega, by omega⟩
    -- row[2] > 0
    refine ⟨_, rfl, r, _, 2, .int c, rfl, rfl, hL, atI_nat (j := 2) rfl, _, _, rfl, rfl, _, rfl, ite2 (fun e => ?_) (fun e => ?_)⟩
    · refine ⟨_, rfl, r, _, 2, .int c, rfl, rfl, hL, atI_nat (j := 2) rfl, _, rfl, _, _, rfl, rfl, gn.1, ?_⟩
      refine ⟨_, rfl, r, _, 2, .int c, rfl, rfl, hL, atI_nat (j := 2) rfl, _, rfl, _, _, rfl, rfl, gn, ?_⟩
      refine ⟨_, rfl, r, _, 2, 2, rfl, rfl, hR, rfl, ?_⟩
      refine ⟨_, rfl, ?_⟩
      exact q _ _ (fmod_in h0).1 (fmod_in h0).2 (stp_at _) (R.put hi hm0 hm1)
    -- row[1] < len(row[0])
    refine ⟨_, rfl, r, _, 1, .int i, rfl, rfl, hL, atI_nat (j := 1) rfl, _, rfl, r, _, 0, .ref a, rfl, rfl, hL, atI_nat (j := 0) rfl, a, _, rfl, .inl hS, _, _, rfl, rfl, _, rfl, ite2 (fun e1 => ?_) (fun e1 => ?_)⟩
    · have e2 : i < ((ns.map V.int).length : Int) := of_decide_eq_true e1
      rw [List.length_map] at e2
      have hj : i.toNat < ns.length := by omega
      have gx : (ns.map V.int)[i.toNat]? = some (.int ns[i.toNat]) := by
        rw [List.getElem?_map, List.getElem?_eq_getElem hj]
        rfl
      refine ⟨_, rfl, r, _, 0, .ref a, rfl, rfl, hL, atI_nat (j := 0) rfl, _, rfl, r, _, 1, .int i, rfl, rfl, hL, atI_nat (j := 1) rfl, a, _, i, .int ns[i.toNat], rfl, rfl, hS, at_of (j := i.toNat) (by omega) gx, ?_⟩
      refine ⟨_, rfl, r, _, 1, .int i, rfl, rfl, hL, atI_nat (j := 1) rfl, _, _, rfl, rfl, ?_⟩
      refine ⟨_, rfl, r, _, 1, 1, rfl, rfl, hR, rfl, ?_⟩
      have R1 : RowAt K (upd H r (.lst [.ref a, .int (i + 1), .int c, .int m])) r a ns := R.put (by omega) hm0 hm1
      refine ⟨_, rfl, _, _, rfl, rfl, ⟨by decide, by decide, by decide⟩, _, _, rfl, rfl, _, rfl, ite2 (fun e3 => ?_) (fun e3 => ?_)⟩
      · refine ⟨_, rfl, _, rfl, _, _, rfl, rfl, gn, ?_⟩
        refine ⟨_, rfl, r, _, 2, 2, rfl, rfl, upd_same, rfl, ?_⟩
        refine ⟨_, rfl, _, rfl, _, _, rfl, rfl, gn.1, ?_⟩
        exact q _ _ (fmod_in h0).1 (fmod_in h0).2 ((stp_at _).trans (stp_at _)) (R1.put (by omega) hm0 hm1)
      · refine ⟨_, rfl, _, rfl, _, _, rfl, rfl, gn.1, ?_⟩
        exact q _ _ (fmod_in h0).1 (fmod_in h0).2 (stp_at _) R1
    · refine ⟨_, rfl, r, _, 3, .int m, rfl, rfl, hL, atI_nat (j := 3) rfl, _, _, rfl, rfl, .inl ⟨by omega, by omega⟩, _, _, rfl, rfl, _, _, rfl, rfl, (by show (2147483647 : Int) ≠ 0; decide), ?_⟩
      refine ⟨_, rfl, r, _, 3, 3, rfl, rfl, hR, rfl, ?_⟩
      have b := fmod_in (x := m * 48271 + 12345) (n := 2147483647) (by decide)
      have R1 : RowAt K (upd H r (.lst [.ref a, .int i, .int c, .int ((m * 48271 + 12345).fmod 2147483647)])) r a ns := R.put hi b.1 b.2
      refine ⟨_, rfl, r, _, 3, .int ((m * 48271 + 12345).fmod 2147483647), rfl, rfl, .inl (.inl upd_same), atI_nat (j := 3) rfl, _, _, rfl, rfl, ⟨by decide, by decide⟩, _, rfl, _, _, rfl, rfl, gn.1, ?_⟩
      exact q _ _ (fmod_in h0).1 (fmod_in h0).2 (stp_at _) R1
end
end Say
namespace Say
open PySem PySem.Spec PyProof.Rows L2
def lets : List (List Nat) := [[97, 98], [97, 98, 99], [97, 99], [97, 98, 99, 100]]
section
variable {P : Program} {w : World} {K : PySem.W.Frag} {mg : Str → Option Value} {base : Heap}
abbrev sSide : Stmt := topS 53
theorem scSide : FnScope ["_law_row_here", "_law_letters_here", "_law_sign"] ["_law_row_here", "_law_letters_here"] (defScope sSide) := ⟨rfl, rfl, rfl, by decide +kernel, rfl, by decide +kernel, by decide +kernel⟩
def spSide (K : PySem.W.Frag) : Sp := fun vs H Q _ => ∃ (r a : Addr) (ns : List Int) (L : List Nat), vs = [.ref r, .str (T L)] ∧ RowAt K H r a ns ∧ L.length ≤ 4 ∧
  ∀ (z : List Nat) (H' : Hp), z.Sublist (35 :: L) → Stp r H H' → RowAt K H' r a ns → Q (.str (T z)) H'
theorem ok_side {f : Addr} {fd : FuncData} (F : Fun K "_law_side" "_law_side" sSide f fd) (DT : Df P w K mg base "_law_taken" ["_law_row_here", "_law_many"] 1 (spTaken K)) :
    FnOk P w K mg base CX0 2 f fd ["_law_row_here", "_law_letters_here"] (spSide K) := by
  obtain ⟨fT, fdT, GT, kT, bT, mT⟩ := DT
  refine F.ok scSide (fun vs H Q E h => ?_) (fun cdv A outer s H vs Q E hr h => ?_)
  · obtain ⟨r, a, ns, L, rfl, _⟩ := h
    rfl
  · obtain ⟨r, a, ns, L, rfl, R, hl, q⟩ := h
    refine ⟨_, pss_cons (ps_if (pt_cmpR op_eq (pe_call GT hr (by rfl) mT kT bT .nil pass0 (pa_cons (pv 0) (pa_cons pe_int pa_nil))) pe_int (nomark _)) (pss_one (ps_ret pe_str)) pss_nil)
      (pss_one (ps_ret (pe_join pe_str (pe_lc (own := [("_law_sign", 2)]) (g := gName 2) rfl scSide.nd (pi_str (pe_op op_add_str pe_str (pv 1)))
        (blkOk_by (N := ["_law_row_here", "_law_letters_here", "_law_sign"]) (sc := defScope sSide) (by decide +kernel)) (fun _ _ _ _ _ => pg_name (i := 2) scSide.nd rfl (.inl rfl))
        (fun _ _ _ _ _ => pts_one (pt_cmpR op_eq (pe_call GT hr (by rfl) mT kT bT .nil pass0 (pa_cons (pv 0) (pa_cons pe_int pa_nil))) pe_int (nomark _))) (fun _ _ _ _ _ => pv 2))))), ?_⟩
    refine ⟨_, rfl, r, a, ns, 2, rfl, R, by decide, by decide, fun k1 H1 h0 h1 s1 R1 => ?_⟩
    refine ⟨rfl, _, rfl, ite2 (fun _ => ?_) (fun _ => ?_)⟩
    · have e := q [] H1 (List.nil_sublist _) s1 R1
      exact e
    refine ⟨⟨_, rfl⟩, _, rfl, _, _, rfl, rfl, (by rw [len_hash, T_len]; exact small (by omega)), ?_⟩
    refine ⟨T (35 :: L), congrArg V.str (hash_app L), fun D hD => ?_⟩
    refine lc_it (walk_str) (fun i H2 => ∃ acc : List Nat, H2 D = some (.lst (sg acc)) ∧ acc.Sublist ((35 :: L).take i) ∧ Stp r H1 H2 ∧ RowIn H2 r a) ?_ (fun _ _ _ _ => trivial) ?_ ?_
    · exact ⟨[], upd_same, List.nil_sublist _, Stp.of (same_new hD _), R1.in.upd (R1.nw hD)⟩
    · rintro i x H2 H2' hi ⟨acc, e1, e2, e3, e4⟩ ⟨rfl, c, hc, rfl⟩
      have hc := T_at hc
      have tk := take_next hc
      refine ⟨rfl, _, rfl, r, a, ns, 2, rfl, R1.of e3 e4, by decide, by decide, fun k2 H3 h0 h1 s2 R2 => ?_⟩
      have e1' := s2.one e1 (R1.nw hD)
      refine ⟨rfl, _, rfl, ite2 (fun _ => ?_) (fun _ => ?_)⟩
      · refine ⟨_, rfl, _, e1', ?_, acc ++ [c], ?_, ?_, (e3.trans s2).put hD _, R2.in.upd (R1.nw hD)⟩
        · have := e2.length_le
          rw [sg_len]
          rw [List.length_take, List.length_cons] at this
          exact small1000 (by omega)
        · rw [upd_same]
          exact congrArg (fun l => some (HO.lst l)) (sg_app acc c)
        · rw [tk]
          exact e2.append (List.Sublist.refl [c])
      · refine ⟨acc, e1', ?_, e3.trans s2, R2.in⟩
        rw [tk]
        exact e2.trans (List.sublist_append_left _ _)
    · rintro H2 ⟨acc, e1, e2, e3, e4⟩
      rw [T_size, List.take_length] at e2
      refine ⟨Str.ofString "", D, (acc.map fun c => [c]).map T, rfl, rfl, .inl (.inl (.inl ?_)), ?_, ?_⟩
      · rw [e1, sg_map]
      · rw [sum_ones]
        have := e2.length_le
        rw [List.length_cons] at this
        show acc.length + _ * 0 ≤ _
        omega
      · rw [show Str.ofString "" = T [] from nil_eq, join_nil, map_single]
        exact q acc H2 e2 (s1.trans e3) (R1.of e3 e4)
end
end Say
namespace Say
open PySem PySem.Spec PyProof.Rows L2
section
variable {P : Program} {w : World} {K : PySem.W.Frag} {mg : Str → Option Value} {base : Heap}
abbrev sText : Stmt := topS 54
theorem scText : FnScope ["_law_row_here", "_law_signs", "_law_fewest", "_law_many", "_law_k"] ["_law_row_here", "_law_signs", "_law_fewest", "_law_many"] (defScope sText) := ⟨rfl, rfl, rfl, by decide +kernel, rfl, by decide +kernel, by decide +kernel⟩
def spText (K : PySem.W.Frag) : Sp := fun vs H Q _ => ∃ (r a : Addr) (ns : List Int) (S : List Nat) (lo hi : Nat), vs = [.ref r, .str (T S), .int lo, .int hi] ∧ RowAt K H r a ns ∧ 0 < S.length ∧ S.length ≤ 100 ∧ lo ≤ hi ∧ hi ≤ 100 ∧
  ∀ (z : List Nat) (H' : Hp), (∀ c ∈ z, c ∈ S) → lo ≤ z.length → z.length ≤ hi → Stp r H H' → RowAt K H' r a ns → Q (.str (T z)) H'
theorem ok_text {f : Addr} {fd : FuncData} (F : Fun K "_law_text" "_law_text" sText f fd) (DT : Df P w K mg base "_law_taken" ["_law_row_here", "_law_many"] 1 (spTaken K)) (ml : mg "len" = none) (mr : mg "range" = none) :
    FnOk P w K mg base CX0 2 f fd ["_law_row_here", "_law_signs", "_law_fewest", "_law_many"] (spText K) := by
  obtain ⟨fT, fdT, GT, kT, bT, mT⟩ := DT
  refine F.ok scText (fun vs H Q E h => ?_) (fun cdv A outer s H vs Q E hr h => ?_)
  · obtain ⟨r, a, ns, S, lo, hi, rfl, _⟩ := h
    rfl
  · obtain ⟨r, a, ns, S, lo, hi, rfl, R, hS0, hS1, hlh, hh, q⟩ := h
    refine ⟨_, pss_one (ps_ret (pe_join pe_str (pe_lc (own := [("_law_k", 4)]) (g := gName 4) rfl scText.nd
        (pi_range1 rfl mr (pa_cons (pe_op op_add (pv 2) (pe_call GT hr (by rfl) mT kT bT .nil pass0 (pa_cons (pv 0) (pa_cons (pe_op op_add (pe_op op_sub (pv 3) (pv 2)) pe_int) pa_nil)))) pa_nil))
        (blkOk_by (N := ["_law_row_here", "_law_signs", "_law_fewest", "_law_many", "_law_k"]) (sc := defScope sText) (by decide +kernel)) (fun _ _ _ _ _ => pg_name (i := 4) scText.nd rfl (.inl rfl))
        (fun _ _ _ _ _ => pts_nil) (fun _ _ _ _ _ => pe_ix ix_str (pv 1) (pe_call GT hr (by rfl) mT kT bT .nil pass0 (pa_cons (pv 0) (pa_cons (pe_callB call_len_str (by rfl) ml PySem.boot_len (pa_cons (pv 1) pa_nil)) pa_nil))) (fun _ _ => rfl))))), ?_⟩
    refine ⟨⟨_, rfl⟩, _, rfl, _, rfl, _, rfl, _, rfl, _, _, rfl, rfl, _, _, rfl, rfl, r, a, ns, _, rfl, R, by omega, by omega, fun k1 H1 h0 h1 s1 R1 => ?_⟩
    refine ⟨_, _, rfl, rfl, (lo : Int) + k1, rfl, by omega, by omega, fun D hD => ?_⟩
    refine lc_it (walk_range) (fun i H2 => ∃ acc : List Nat, H2 D = some (.lst (sg acc)) ∧ acc.length = i ∧ (∀ c ∈ acc, c ∈ S) ∧ Stp r H1 H2 ∧ RowIn H2 r a) ?_ (fun _ _ _ _ => trivial) ?_ ?_
    · exact ⟨[], upd_same, rfl, by simp, Stp.of (same_new hD _), R1.in.upd (R1.nw hD)⟩
    · rintro i x H2 H2' hi' ⟨acc, e1, e2, e3, e4, e5⟩ ⟨rfl, rfl⟩
      refine ⟨rfl, ?_⟩
      refine ⟨_, rfl, _, rfl, _, rfl, _, rfl, (by rw [T_len]; exact small (by omega)), r, a, ns, _, rfl, R1.of e4 e5, (by rw [T_len]; omega), (by rw [T_len]; omega), fun k2 H3 h2 h3 s2 R2 => ?_⟩
      have e1' := s2.one e1 (R1.nw hD)
      rw [T_len] at h3
      have hj : k2.toNat < S.length := by omega
      refine ⟨T S, k2, S[k2.toNat], rfl, rfl, (by rw [T_len]; exact small (by omega)), at_list hj (by omega), ?_⟩
      refine ⟨_, e1', ?_, acc ++ [S[k2.toNat]], ?_, by simp [e2], ?_, (e4.trans s2).put hD _, R2.in.upd (R1.nw hD)⟩
      · rw [sg_len]
        exact small1000 (by omega)
      · rw [upd_same]
        exact congrArg (fun l => some (HO.lst l)) (sg_app acc _)
      · intro c hc
        rcases List.mem_append.mp hc with h | h
        · exact e3 c h
        · rw [List.mem_singleton.mp h]
          exact List.getElem_mem hj
    · rintro H2 ⟨acc, e1, e2, e3, e4, e5⟩
      refine ⟨Str.ofString "", D, (acc.map fun c => [c]).map T, rfl, rfl, .inl (.inl (.inl ?_)), ?_, ?_⟩
      · rw [e1, sg_map]
      · rw [sum_ones]
        show acc.length + _ * 0 ≤ _
        omega
      · rw [show Str.ofString "" = T [] from nil_eq, join_nil, map_single]
        exact q acc H2 e3 (by omega) (by omega) (s1.trans e4) (R1.of e4 e5)
end
end Say
namespace Say
open PySem PySem.Spec PyProof.Rows L2
section
variable {P : Program} {w : World} {K : PySem.W.Frag} {mg : Str → Option Value} {base : Heap}
abbrev sRule : Stmt := topS 55
theorem scRule : FnScope ["_law_row_here", "_law_letters_here", "_law_ahead", "_law_own"] ["_law_row_here", "_law_letters_here"] (defScope sRule) := ⟨rfl, rfl, rfl, by decide +kernel, rfl, by decide +kernel, by decide +kernel⟩
def spRule (K : PySem.W.Frag) : Sp := fun vs H Q _ => ∃ (r a : Addr) (ns : List Int) (L : List Nat), vs = [.ref r, .str (T L)] ∧ RowAt K H r a ns ∧ 0 < L.length ∧ L.length ≤ 4 ∧
  ∀ (ρ : Rule) (t : Addr) (H' : Hp), RuleOk L ρ → H' t = some (.tup ρ.vs) → Stp r H H' → RowAt K H' r a ns → Q (.ref t) H'
theorem AB_eq : Str.ofString "AB" = T [65, 66] := by decide +kernel
theorem AB_ok {z : List Nat} (h : ∀ c ∈ z, c ∈ [65, 66]) : ∀ c ∈ z, 65 ≤ c ∧ c ≤ 90 := fun c hc => by
  have := h c hc
  simp at this
  omega
theorem ok_rule {f : Addr} {fd : FuncData} (F : Fun K "_law_rule" "_law_rule" sRule f fd) (DT : Df P w K mg base "_law_taken" ["_law_row_here", "_law_many"] 1 (spTaken K))
    (DS : Df P w K mg base "_law_side" ["_law_row_here", "_law_letters_here"] 2 (spSide K)) (DX : Df P w K mg base "_law_text" ["_law_row_here", "_law_signs", "_law_fewest", "_law_many"] 2 (spText K)) :
    FnOk P w K mg base CX0 3 f fd ["_law_row_here", "_law_letters_here"] (spRule K) := by
  obtain ⟨fT, fdT, GT, kT, bT, mT⟩ := DT
  obtain ⟨fS, fdS, GS, kS, bS, mS⟩ := DS
  obtain ⟨fX, fdX, GX, kX, bX, mX⟩ := DX
  refine F.ok scRule (fun vs H Q E h => ?_) (fun cdv A outer s H vs Q E hr h => ?_)
  · obtain ⟨r, a, ns, L, rfl, _⟩ := h
    rfl
  · obtain ⟨r, a, ns, L, rfl, R, hl0, hl, q⟩ := h
    have hr1 : Room 1 _ := hr.mono (by decide)
    refine ⟨_, pss_cons (ps_par (i := 2) (j := 3) (by rfl) scRule.nd rfl rfl (by decide) rfl rfl (pa_cons (pe_call GS hr (by rfl) mS kS bS .nil pass0 (pa_cons (pv 0) (pa_cons (pv 1) pa_nil)))
          (pa_cons (pe_call GX hr (by rfl) mX kX bX .nil pass0 (pa_cons (pv 0) (pa_cons (pv 1) (pa_cons pe_int (pa_cons pe_int pa_nil))))) pa_nil)) (by rfl))
      (pss_one (ps_ret (pe_tup (pa_cons (pv 2) (pa_cons (pv 3) (pa_cons (pe_call GS hr (by rfl) mS kS bS .nil pass0 (pa_cons (pv 0) (pa_cons (pv 1) pa_nil)))
        (pa_cons (pe_call GX hr (by rfl) mX kX bX .nil pass0 (pa_cons (pv 0) (pa_cons pe_str (pa_cons pe_int (pa_cons (pe_ix ix_list (pe_lst (pa_cons pe_int (pa_cons pe_int (pa_cons pe_int pa_nil)))) (pe_call GT hr1 (by rfl) mT kT bT .nil pass0 (pa_cons (pv 0) (pa_cons pe_int pa_nil))) (fun _ _ => rfl)) pa_nil))))) pa_nil))))))), ?_⟩
    refine ⟨_, rfl, _, rfl, r, a, ns, L, rfl, R, hl, fun ah H1 o1 s1 R1 => ?_⟩
    refine ⟨_, rfl, _, rfl, r, a, ns, L, 1, 2, rfl, R1, hl0, by omega, by decide, by decide, fun ow H2 o2 o3 o4 s2 R2 => ?_⟩
    refine ⟨_, _, rfl, ?_⟩
    refine ⟨_, rfl, _, rfl, _, rfl, _, rfl, r, a, ns, L, rfl, R2, hl, fun be H3 o5 s3 R3 => ?_⟩
    refine ⟨_, rfl, (by show 3 ≤ sizeLine; decide), fun p hp => ?_⟩
    have sm := same_new hp (.lst [V.int 1, .int 1, .int 3])
    refine ⟨_, rfl, r, a, ns, 3, rfl, R3.stp sm, by decide, by decide, fun k1 H4 h0 h1 s4 R4 => ?_⟩
    have hL : SqL K H4 p [V.int 1, .int 1, .int 3] := .inl (.inl (s4 _ _ upd_same (R3.nw hp).symm))
    have s34 := (Stp.of sm).trans s4
    have fin : ∀ m : Nat, m ≤ 3 → ∀ (so : List Nat) (H5 : Hp), (∀ c ∈ so, c ∈ [65, 66]) → 0 ≤ so.length → so.length ≤ m → Stp r H4 H5 → RowAt K H5 r a ns → 
        (4 ≤ sizeLine ∧ ∀ t, H5 t = none → Q (.ref t) (upd H5 t (.tup [.str (T ah), .str (T ow), .str (T be), .str (T so)]))) := fun m hm so H5 o6 _ o7 s5 R5 =>
      ⟨by decide, fun t ht => q ⟨ah, ow, be, so⟩ t _ ⟨o1, o2, o3, o4, o5, AB_ok o6, by show so.length ≤ 3; omega⟩ upd_same (s1.trans (s2.trans (s3.trans (s34.trans (s5.trans (Stp.of (same_new ht _))))))) (R5.stp (same_new ht _))⟩
    have hk : k1 = 0 ∨ k1 = 1 ∨ k1 = 2 := by omega
    rcases hk with e | e | e
    · exact ⟨p, _, k1, V.int 1, rfl, rfl, hL, at_of (j := 0) e rfl, r, a, ns, [65, 66], 0, 1, by rw [AB_eq]; rfl, R4, by decide, by decide, by decide, by decide, fin 1 (by decide)⟩
    · exact ⟨p, _, k1, V.int 1, rfl, rfl, hL, at_of (j := 1) e rfl, r, a, ns, [65, 66], 0, 1, by rw [AB_eq]; rfl, R4, by decide, by decide, by decide, by decide, fin 1 (by decide)⟩
    · exact ⟨p, _, k1, V.int 3, rfl, rfl, hL, at_of (j := 2) e rfl, r, a, ns, [65, 66], 0, 3, by rw [AB_eq]; rfl, R4, by decide, by decide, by decide, by decide, fin 3 (by decide)⟩
abbrev sRules : Stmt := topS 56
theorem scRules : FnScope ["_law_row_here", "_law_letters_here", "_law_most", "_law_found", "_law_letter", "_law_k"] ["_law_row_here", "_law_letters_here", "_law_most"] (defScope sRules) := ⟨rfl, rfl, rfl, by decide +kernel, rfl, by decide +kernel, by decide +kernel⟩
def spRules (K : PySem.W.Frag) : Sp := fun vs H Q _ => ∃ (r a : Addr) (ns : List Int) (L : List Nat) (n : Nat), vs = [.ref r, .str (T L), .int n] ∧ RowAt K H r a ns ∧ 0 < L.length ∧ L.length ≤ 4 ∧ n ≤ 20 ∧
  ∀ (rs : List Rule) (R : Addr) (H' : Hp), (∀ ρ ∈ rs, RuleOk L ρ) → rs.length ≤ n + L.length → RulesAt H' R rs → Stp r H H' → RowAt K H' r a ns → Q (.ref R) H'
theorem ok_rules {f : Addr} {fd : FuncData} (F : Fun K "_law_rules" "_law_rules" sRules f fd) (DT : Df P w K mg base "_law_taken" ["_law_row_here", "_law_many"] 1 (spTaken K))
    (DR : Df P w K mg base "_law_rule" ["_law_row_here", "_law_letters_here"] 3 (spRule K)) (mr : mg "range" = none) (mt : mg "tuple" = none) :
    FnOk P w K mg base CX0 4 f fd ["_law_row_here", "_law_letters_here", "_law_most"] (spRules K) := by
  obtain ⟨fT, fdT, GT, kT, bT, mT⟩ := DT
  obtain ⟨fR, fdR, GR, kR, bR, mR⟩ := DR
  refine F.ok scRules (fun vs H Q E h => ?_) (fun cdv A outer s H vs Q E hr h => ?_)
  · obtain ⟨r, a, ns, L, n, rfl, _⟩ := h
    rfl
  · obtain ⟨r, a, ns, L, n, rfl, R, hl0, hl, hn, q⟩ := h
    have hr1 : Room 1 _ := hr.mono (by decide)
    refine ⟨_, pss_cons (ps_setLc (i := 3) (own := [("_law_k", 5)]) (g := gName 5) rfl scRules.nd rfl rfl (sw_true rfl rfl rfl (by decide +kernel))
        (pi_range1 rfl mr (pa_cons (pe_call GT hr1 (by rfl) mT kT bT .nil pass0 (pa_cons (pv 0) (pa_cons (pe_op op_add (pv 2) pe_int) pa_nil))) pa_nil))
        (blkOk_by (N := ["_law_row_here", "_law_letters_here", "_law_most", "_law_found", "_law_letter", "_law_k"]) (sc := defScope sRules) (by decide +kernel)) (fun _ _ _ _ _ => pg_name (i := 5) scRules.nd rfl (.inl rfl))
        (fun _ _ _ _ _ => pts_nil) (fun _ _ _ _ _ => pe_call GR hr (by rfl) mR kR bR .nil pass0 (pa_cons (pv 0) (pa_cons (pv 1) pa_nil))))
      (pss_cons (ps_if (pt_cmpR op_gt (pe_call GT hr1 (by rfl) mT kT bT .nil pass0 (pa_cons (pv 0) (pa_cons pe_int pa_nil))) pe_int (nomark _))
        (pss_one (ps_for PassesOwn.never rfl (pi_str (pv 1)) (pg_name (i := 4) scRules.nd rfl (.inl rfl))
          (pss_one (ps_expr (pe_bm PySem.F.plainAttrs_list PySem.F.slot_list_append PySem.F.type_list_append mt_append (pv 3)
            (pa_cons (pe_tup (pa_cons pe_str (pa_cons (pv 4) (pa_cons pe_str (pa_cons (pe_ix ix_list (pe_lst (pa_cons pe_str (pa_cons pe_str (pa_cons pe_str (pa_cons pe_str pa_nil))))) (pe_call GT hr1 (by rfl) mT kT bT .nil pass0 (pa_cons (pv 0) (pa_cons pe_int pa_nil))) (fun _ _ => rfl)) pa_nil))))) pa_nil)))))) pss_nil)
      (pss_one (ps_ret (pe_callTy call_tuple_of (by rfl) mt (by decide +kernel) (pa_cons (pv 3) pa_nil))))), ?_⟩
    refine ⟨_, rfl, _, rfl, _, _, rfl, rfl, r, a, ns, _, rfl, R, by omega, by omega, fun k1 H1 h0 h1 s1 R1 => ?_⟩
    refine ⟨k1, rfl, by omega, by omega, fun D hD => ?_⟩
    have nD := R1.nw hD
    refine lc_it (walk_range) (fun i H2 => ∃ (ts : List Addr) (rs : List Rule), H2 D = some (.lst (ts.map V.ref)) ∧ Paired (fun t ρ => H2 t = some (.tup (Rule.vs ρ))) ts rs ∧ rs.length = i ∧ (∀ ρ ∈ rs, RuleOk L ρ) ∧ Stp r H1 H2 ∧ RowIn H2 r a) ?_ (fun _ _ _ _ => trivial) ?_ ?_
    · exact ⟨[], [], upd_same, .nil, rfl, by simp, Stp.of (same_new hD _), R1.in.upd nD⟩
    · rintro i x H2 H2' hi' ⟨ts, rs, e1, e2, e3, e4, e5, e6⟩ ⟨rfl, rfl⟩
      refine ⟨rfl, ?_⟩
      refine ⟨_, rfl, _, rfl, r, a, ns, L, rfl, R1.of e5 e6, hl0, hl, fun ρ t H3 o1 o2 s2 R2 => ?_⟩
      have e1' := s2.one e1 nD
      have kt := (s2.kt e6).trans (kt_upd e1' (o := .lst (ts.map V.ref ++ [.ref t])))
      refine ⟨_, e1', ?_, ts ++ [t], rs ++ [ρ], ?_, ?_, by simp [e3], ?_, (e5.trans s2).put hD _, R2.in.upd nD⟩
      · rw [List.length_map, paired_len e2]
        exact small1000 (by omega)
      · rw [upd_same, List.map_append]
        rfl
      · exact paired_app (paired_mono (fun t ρ h => kt.1 _ _ h) e2) (.cons ((kt_upd e1').1 _ _ o2) .nil)
      · intro c hc
        rcases List.mem_append.mp hc with h | h
        · exact e4 c h
        · rw [List.mem_singleton.mp h]
          exact o1
    · rintro H2 ⟨ts, rs, e1, e2, e3, e4, e5, e6⟩
      have e3' : rs.length ≤ n := by omega
      refine ⟨_, rfl, r, a, ns, 4, rfl, R1.of e5 e6, by decide, by decide, fun k2 H3 h2 h3 s2 R2 => ?_⟩
      have e1' := s2.one e1 nD
      have e2' := paired_mono (fun t ρ h => (s2.kt e6).1 _ _ h) e2
      have e5' := e5.trans s2
      -- the end: tuple(found)
      have fin : ∀ (H4 : Hp) (ts : List Addr) (rs : List Rule), H4 D = some (.lst (ts.map V.ref)) → Paired (fun t ρ => H4 t = some (.tup (Rule.vs ρ))) ts rs → rs.length ≤ n + L.length → (∀ ρ ∈ rs, RuleOk L ρ) → Stp r H1 H4 → RowIn H4 r a → ∀ t, H4 t = none → Q (.ref t) (upd H4 t (.tup (ts.map V.ref))) := fun H4 ts rs f1 f2 f3 f4 f5 f6 t ht =>
        q rs t _ f4 f3 ⟨ts, upd_same, paired_mono (fun t ρ h => (kt_new ht).1 _ _ h) f2⟩ (s1.trans (f5.trans (Stp.of (same_new ht _)))) ((R1.of f5 f6).stp (same_new ht _))
      refine ⟨_, _, rfl, rfl, _, rfl, ite2 (fun _ => ?_) (fun _ => ?_)⟩
      · refine ⟨_, rfl, T L, rfl, for_it (walk_str) (fun i σ H4 => ∃ (ts : List Addr) (rs : List Rule) (v : Option V), σ = [some (.ref r), some (.str (T L)), some (.int n), some (.ref D), v, none] ∧ H4 D = some (.lst (ts.map V.ref)) ∧ Paired (fun t ρ => H4 t = some (.tup (Rule.vs ρ))) ts rs ∧ rs.length ≤ n + i ∧ (∀ ρ ∈ rs, RuleOk L ρ) ∧ Stp r H1 H4 ∧ RowIn H4 r a)
          ⟨ts, rs, _, rfl, e1', e2', by omega, e4, e5', R2.in⟩ (fun _ _ _ _ _ => trivial) ?_ ?_⟩
        · rintro i x σ H4 H4' hi' ⟨ts, rs, v, rfl, e1, e2, e3, e4, e5, e6⟩ ⟨rfl, c, hc, rfl⟩
          have hc := T_at hc
          have hi2 : i < L.length := by rw [T_size] at hi'; exact hi'
          have RA := R1.of e5 e6
          refine ⟨_, rfl, .inl ⟨rfl, _, .inl (.inl e1)⟩, _, rfl, (by show 4 ≤ sizeLine; decide), fun p hp => ?_⟩
          have sm := same_new hp (.lst [V.str "A", .str "B", .str "", .str "AB"])
          refine ⟨_, rfl, r, a, ns, 4, rfl, RA.stp sm, by decide, by decide, fun k3 H5 h4 h5 s3 R3 => ?_⟩
          have s3' := (Stp.of sm).trans s3
          have hL : SqL K H5 p [V.str "A", .str "B", .str "", .str "AB"] := .inl (.inl (s3 _ _ upd_same (RA.nw hp).symm))
          have f1 := s3'.one e1 nD
          have kt3 := s3'.kt e6
          have ec : c ∈ L := List.mem_of_getElem? hc
          have ok : ∀ so : List Nat, (∀ c ∈ so, 65 ≤ c ∧ c ≤ 90) → so.length ≤ 3 → RuleOk L ⟨[], [c], [], so⟩ := fun so g1 g2 =>
            ⟨List.nil_sublist _, fun d hd => by rw [List.mem_singleton.mp hd]; exact ec, Nat.le_refl _, by show 1 ≤ 2; decide, List.nil_sublist _, g1, g2⟩
          obtain ⟨so, g1, g2, g3⟩ : ∃ so : List Nat, (∀ c ∈ so, 65 ≤ c ∧ c ≤ 90) ∧ so.length ≤ 3 ∧ atI [V.str "A", .str "B", .str "", .str "AB"] k3 = some (V.str (T so)) := by
            have hk : k3 = 0 ∨ k3 = 1 ∨ k3 = 2 ∨ k3 = 3 := by omega
            rcases hk with e | e | e | e
            · exact ⟨[65], by decide, by decide, at_of (j := 0) e (by decide +kernel)⟩
            · exact ⟨[66], by decide, by decide, at_of (j := 1) e (by decide +kernel)⟩
            · exact ⟨[], by decide, by decide, at_of (j := 2) e (by decide +kernel)⟩
            · exact ⟨[65, 66], by decide, by decide, at_of (j := 3) e (by decide +kernel)⟩
          refine ⟨p, _, k3, V.str (T so), rfl, rfl, hL, g3, (by show 4 ≤ sizeLine; decide), fun t ht => ?_⟩
          have f2 := same_new ht (.tup [.str (Str.ofString ""), .str ⟨#[c]⟩, .str (Str.ofString ""), .str (T so)])
          have f3 := f2 _ _ f1
          have kt4 := (kt3.trans (KT.of f2)).trans (kt_upd f3 (o := .lst (ts.map V.ref ++ [.ref t])))
          refine ⟨D, _, _, rfl, rfl, f3, ?_, ts ++ [t], rs ++ [⟨[], [c], [], so⟩], _, rfl, ?_, ?_, ?_, ?_, ((e5.trans s3').trans (Stp.of f2)).put hD _, ?_⟩
          · rw [List.length_map, paired_len e2]
            exact small1000 (by omega)
          · rw [upd_same, List.map_append]
            rfl
          · refine paired_app (paired_mono (fun t ρ h => kt4.1 _ _ h) e2) (.cons ((kt_upd f3).1 _ _ ?_) .nil)
            rw [upd_same, show Str.ofString "" = T [] from nil_eq]
            rfl
          · rw [List.length_append]
            show rs.length + 1 ≤ n + (i + 1)
            omega
          · intro d hd
            rcases List.mem_append.mp hd with h | h
            · exact e4 d h
            · rw [List.mem_singleton.mp h]
              exact ok so g1 g2
          · exact (R3.stp f2).in.upd nD
        · rintro σ H4 ⟨ts, rs, v, rfl, e1, e2, e3, e4, e5, e6⟩
          rw [T_size] at e3
          exact ⟨_, rfl, D, _, rfl, .inl ⟨.inl (.inl e1), fin H4 ts rs e1 e2 e3 e4 e5 e6⟩⟩
      · exact ⟨_, rfl, D, _, rfl, .inl ⟨.inl (.inl e1'), fin H3 ts rs e1' e2' (by omega) e4 e5' R2.in⟩⟩
end
end Say
namespace Say
open PySem PySem.Spec PyProof.Rows L2
section
variable {P : Program} {w : World} {K : PySem.W.Frag} {mg : Str → Option Value} {base : Heap}
abbrev sRow : Stmt := topS 50
theorem scRow : FnScope ["_law_script", "_law_mixed", "_law_cell"] ["_law_script"] (defScope sRow) := ⟨rfl, rfl, rfl, by decide +kernel, rfl, by decide +kernel, by decide +kernel⟩
def spRow (K : PySem.W.Frag) : Sp := fun vs H Q _ => ∃ (a : Addr) (ns : List Int), vs = [.ref a] ∧ SqL K H a (ns.map V.int) ∧ ns.length ≤ 63 ∧
  ∀ (r : Addr) (H' : Hp), H r = none → Same H H' → RowAt K H' r a ns → Q (.ref r) H'
theorem map_int_get {ns : List Int} {i : Nat} {x : V} (h : (ns.map V.int)[i]? = some x) : ∃ z, x = V.int z := by
  rw [List.getElem?_map] at h
  cases e : ns[i]? with
  | none => rw [e] at h; cases h
  | some z => rw [e] at h; exact ⟨z, (Option.some.inj h).symm⟩
theorem ok_row {f : Addr} {fd : FuncData} {k : Nat} (F : Fun K "_law_row" "_law_row" sRow f fd) : FnOk P w K mg base CX0 (k + 1) f fd ["_law_script"] (spRow K) := by
  refine F.ok scRow (fun vs H Q E h => ?_) (fun cdv A outer s H vs Q E hr h => ?_)
  · obtain ⟨a, ns, rfl, _⟩ := h
    rfl
  · obtain ⟨a, ns, rfl, hS, hle, q⟩ := h
    refine ⟨_, pss_cons (ps_set (i := 1) scRow.nd rfl (.inl rfl) pe_int)
      (pss_cons (ps_for PassesOwn.never rfl (pi_list (pv 0)) (pg_name (i := 2) scRow.nd rfl (.inl rfl))
        (pss_one (ps_set (i := 1) scRow.nd rfl (.inl rfl) (pe_op op_modN (pe_op op_add (pe_op op_add (pe_op op_mul (pv 1) pe_int) (pv 2)) pe_int) pe_int))))
      (pss_one (ps_ret (pe_lst (pa_cons (pv 0) (pa_cons pe_int (pa_cons pe_int (pa_cons (pv 1) pa_nil)))))))), ?_⟩
    refine ⟨_, rfl, a, rfl, ⟨_, hS⟩, for_list (K := K) (a := a) (xs := ns.map V.int) (fun i σ H2 => H2 = H ∧ ∃ (m : Int) (v : Option V), σ = [some (.ref a), some (.int m), v] ∧ 0 ≤ m ∧ m < 2147483647)
      ⟨rfl, 7, none, rfl, by decide, by decide⟩ (fun i σ H2 _ h => by obtain ⟨rfl, _⟩ := h; exact hS) ?_ ?_⟩
    · rintro i x σ H2 hx ⟨rfl, m, v, rfl, h0, h1⟩
      obtain ⟨z, rfl⟩ := map_int_get hx
      refine ⟨_, rfl, _, _, rfl, rfl, .inl ⟨by omega, by omega⟩, _, rfl, _, _, rfl, rfl, _, _, rfl, rfl, _, _, rfl, rfl, (by show (2147483647 : Int) ≠ 0; decide), ?_⟩
      exact ⟨rfl, _, _, rfl, Int.fmod_nonneg_of_pos _ (by decide), Int.fmod_lt_of_pos _ (by decide)⟩
    · rintro σ H2 ⟨rfl, m, v, rfl, h0, h1⟩
      refine ⟨_, rfl, _, rfl, (by show 4 ≤ sizeLine; decide), fun p hp => ?_⟩
      have sm := same_new hp (.lst [.ref a, .int 0, .int 0, .int m])
      exact q p _ hp sm ⟨⟨0, 0, m, upd_same, by decide, h0, h1⟩, sm.seq hS, hle⟩
end
end Say
namespace Say
open PySem PySem.Spec PyProof.Rows L2 L2.DX
theorem putE_all {p : Exc → Prop} {es : List Exc} {wd so : List Nat} (h : ∀ e ∈ es, p e) (hn : p (wd, so)) : ∀ e ∈ putE es wd so, p e := fun e he => by
  unfold putE at he
  by_cases c : (es.any fun e => decide (e.1 = wd)) = true
  · rw [if_pos c] at he
    obtain ⟨e', h1, rfl⟩ := List.mem_map.mp he
    by_cases c2 : e'.1 = wd
    · rw [if_pos c2, c2]; exact hn
    · rw [if_neg c2]; exact h _ h1
  · rw [if_neg c] at he
    rcases List.mem_append.mp he with he | he
    · exact h _ he
    · rw [List.mem_singleton.mp he]; exact hn
theorem ABD_eq : Str.ofString "ABD" = T [65, 66, 68] := by decide +kernel
theorem ABD_ok {z : List Nat} (h : ∀ c ∈ z, c ∈ [65, 66, 68]) : ∀ c ∈ z, 65 ≤ c ∧ c ≤ 90 := fun c hc => by
  have := h c hc
  simp at this
  omega
theorem RowAt.dput {K : PySem.W.Frag} {H : Hp} {r a F : Addr} {ns : List Int} {kvs : List (Key × V)} (R : RowAt K H r a ns) (hF : H F = some (.dK kvs)) (o : HO) : RowAt K (upd H F o) r a ns :=
  R.stpD hF (stp_at _)
section
variable {P : Program} {w : World} {K : PySem.W.Frag} {mg : Str → Option Value} {base : Heap}
abbrev sLEx : Stmt := topS 57
abbrev nLEx : List Str := ["_law_row_here", "_law_letters_here", "_law_most", "_law_found", "_law_k"]
theorem scLEx : FnScope nLEx ["_law_row_here", "_law_letters_here", "_law_most"] (defScope sLEx) := ⟨rfl, rfl, rfl, by decide +kernel, rfl, by decide +kernel, by decide +kernel⟩
def spLE4 (K : PySem.W.Frag) : Sp := fun vs H Q _ => ∃ (r a : Addr) (ns : List Int) (L : List Nat) (n : Nat), vs = [.ref r, .str (T L), .int n] ∧ RowAt K H r a ns ∧ LetOk L ∧ n ≤ 12 ∧
  ∀ (es : List Exc) (X : Addr) (H' : Hp), (∀ e ∈ es, ExcOk L e ∧ e.1.length ≤ 4) → es.length ≤ n → (es.Pairwise fun e f => e.1 < f.1) → ExcsAt H' X es → Stp r H H' → RowAt K H' r a ns → Q (.ref X) H'
theorem ok_LE4 {f : Addr} {fd : FuncData} (F : Fun K "_law_exceptions" "_law_exceptions" sLEx f fd) (B : Bn mg) (DT : Df P w K mg base "_law_taken" ["_law_row_here", "_law_many"] 1 (spTaken K))
    (DX : Df P w K mg base "_law_text" ["_law_row_here", "_law_signs", "_law_fewest", "_law_many"] 2 (spText K)) : FnOk P w K mg base CX0 3 f fd ["_law_row_here", "_law_letters_here", "_law_most"] (spLE4 K) := by
  obtain ⟨fT, fdT, GT, kT, bT, mT⟩ := DT
  obtain ⟨fX, fdX, GX, kX, bX, mX⟩ := DX
  refine F.ok scLEx (fun vs H Q E h => ?_) (fun cdv A outer s H vs Q E hr h => ?_)
  · obtain ⟨r, a, ns, L, n, rfl, _⟩ := h
    rfl
  · obtain ⟨r, a, ns, L, n, rfl, R, oL, hn, q⟩ := h
    have l2 := oL.l2
    have l4 := oL.l4
    have hu := hu_of hr
    have hr1 : Room 1 _ := hr.mono (by decide)
    refine ⟨_, pss_cons (ps_set (i := 3) scLEx.nd rfl (.inl rfl) pe_dnewK)
      (pss_cons (ps_for PassesOwn.never rfl (pi_range1 rfl B.rng (pa_cons (pe_call GT hr1 (by rfl) mT kT bT .nil pass0 (pa_cons (pv 0) (pa_cons (pe_op op_add (pv 2) pe_int) pa_nil))) pa_nil)) (pg_name (i := 4) scLEx.nd rfl (.inl rfl))
        (pss_one (ps_dput hu (pv 3) (pe_call GX hr (by rfl) mX kX bX .nil pass0 (pa_cons (pv 0) (pa_cons (pv 1) (pa_cons pe_int (pa_cons pe_int pa_nil)))))
          (pe_call GX hr (by rfl) mX kX bX .nil pass0 (pa_cons (pv 0) (pa_cons pe_str (pa_cons pe_int (pa_cons pe_int pa_nil))))) rfl)))
      (pss_one (ps_ret (pe_callTy call_tupN (by rfl) B.tup (by decide +kernel) (pa_cons (pe_callB (cr_sortedTx rfl) (by rfl) B.srt (by decide +kernel)
            (pa_cons (pe_bm0 PySem.F.plainAttrs_dict PySem.F.slot_dict_items PySem.F.type_dict_items mt_itemsK (pv 3)) pa_nil)) pa_nil))))), ?_⟩
    intro D hD
    have nD : D ≠ r := (R.nw hD).symm
    have R1 := R.stp (same_new hD (.dK []))
    have hD1 : (upd H D (.dK [])) D = some (.dK (([] : List Exc).map ent)) := upd_same
    have s1 : Stp r H (upd H D (.dK [])) := .of (same_new hD _)
    generalize upd H D (.dK []) = H1 at R1 hD1 s1 ⊢
    refine ⟨_, rfl, _, rfl, _, _, rfl, rfl, r, a, ns, _, rfl, R1, by omega, by omega, fun k1 H2 h0 h1 s2 R2 => ?_⟩
    refine ⟨k1, rfl, by omega, by omega, for_it (walk_range) (fun i σ H3 => ∃ (es : List Exc) (v4 : Option V), σ = [some (.ref r), some (.str (T L)), some (.int n), some (.ref D), v4] ∧ H3 D = some (.dK (es.map ent)) ∧ (∀ e ∈ es, ExcOk L e ∧ e.1.length ≤ 4) ∧ (es.map (·.1)).Nodup ∧ es.length ≤ i ∧ Stp r H H3 ∧ RowAt K H3 r a ns)
      ⟨[], _, rfl, s2 _ _ hD1 nD, by simp, by simp, Nat.le_refl _, s1.trans s2, R2⟩ (fun _ _ _ _ _ => trivial) ?_ ?_⟩
    · rintro i x σ H3 H3' hi ⟨es, v4, rfl, hD3, hes, hnd, hel, s3, R3⟩ ⟨rfl, rfl⟩
      have hi8 : i < 12 := by omega
      refine ⟨_, rfl, r, a, ns, [65, 66, 68], 0, 5, by rw [ABD_eq]; rfl, R3, by decide, by decide, by decide, by decide, fun so H4 g1 g2 g3 s4 R4 => ?_⟩
      refine ⟨_, rfl, _, rfl, _, rfl, r, a, ns, L, 1, 4, rfl, R4, by omega, by omega, by decide, by decide, fun wd H5 w1 w2 w3 s5 R5 => ?_⟩
      have hD5 := (s4.trans s5) _ _ hD3 nD
      refine ⟨D, _, rfl, DPut.k (k := Sum.inr (T wd)) hD5 (by rw [List.length_map]; exact small1000 (by omega)), ?_⟩
      refine ⟨putE es wd so, _, rfl, by rw [upd_same, put_ent], putE_all hes ⟨⟨w1, w2, by show wd.length ≤ 8; omega, ABD_ok g1, by show so.length ≤ 36; omega⟩, by show wd.length ≤ 4; omega⟩, putE_nd hnd, Nat.le_trans (putE_len _ _ _) (by omega), ?_, R5.dput hD5 _⟩
      exact (s3.trans (s4.trans s5)).put hD _
    · rintro σ H3 ⟨es, v4, rfl, hD3, hes, hnd, hel, s3, R3⟩
      have hln : es.length ≤ n := by omega
      refine ⟨_, rfl, .inr (.inr (.inl ⟨rfl, .inl ⟨_, hD3⟩⟩)), D, _, rfl, rfl, hD3, fun p hp => ?_⟩
      have sp := same_new hp (itemsO p D)
      refine ⟨p, D, es.map tt, rfl, upd_same, by rw [sp _ _ hD3, List.map_map]; rfl, by rw [List.length_map]; omega, fun H4 l ps s4 hperm hpw hln' hll hps => ?_⟩
      have s34 : Same H3 H4 := sp.trans s4
      obtain ⟨pe1, pe2, pe3⟩ := sort_exc hnd hperm hpw
      refine ⟨l, _, rfl, .inl (.inl hll), fun X oX hoX hX => ?_⟩
      have sX := same_new hX (.frz oX (.tup (ps.map fun z => V.ref z.1)))
      refine q ((ps.map (·.2)).map bk) X _ (fun e he => hes e (pe2.mem_iff.mp he)) (by rw [pe2.length_eq]; exact hln) pe3 ⟨ps.map (·.1), ⟨oX, by rw [upd_same, List.map_map]; rfl, hoX⟩, ?_⟩ (s3.trans (.of (s34.trans sX))) (R3.stp (s34.trans sX))
      rw [List.map_map]
      refine paired_map fun z hz => ?_
      have := sX _ _ (hps z hz)
      rw [this]
      show some (HO.tup [V.str z.2.1, V.str z.2.2]) = some (HO.tup [V.str (T z.2.1.cps.toList), V.str (T z.2.2.cps.toList)])
      rw [T_list, T_list]
end
end Say
namespace Say
open PySem PySem.Spec PyProof.Rows L2
section
variable {P : Program} {w : World} {K : PySem.W.Frag} {mg : Str → Option Value} {base : Heap}
abbrev sLetters : Stmt := topS 52
theorem scLetters : FnScope ["_law_row_here"] ["_law_row_here"] (defScope sLetters) := ⟨rfl, rfl, rfl, by decide +kernel, rfl, by decide +kernel, by decide +kernel⟩
def spLetters (K : PySem.W.Frag) : Sp := fun vs H Q _ => ∃ (r a : Addr) (ns : List Int), vs = [.ref r] ∧ RowAt K H r a ns ∧
  ∀ (L : List Nat) (H' : Hp), L ∈ lets → Stp r H H' → RowAt K H' r a ns → Q (.str (T L)) H'
theorem ok_letters {f : Addr} {fd : FuncData} (F : Fun K "_law_letters" "_law_letters" sLetters f fd) (DT : Df P w K mg base "_law_taken" ["_law_row_here", "_law_many"] 1 (spTaken K)) :
    FnOk P w K mg base CX0 2 f fd ["_law_row_here"] (spLetters K) := by
  obtain ⟨fT, fdT, GT, kT, bT, mT⟩ := DT
  refine F.ok scLetters (fun vs H Q E h => ?_) (fun cdv A outer s H vs Q E hr h => ?_)
  · obtain ⟨r, a, ns, rfl, _⟩ := h
    rfl
  · obtain ⟨r, a, ns, rfl, R, q⟩ := h
    refine ⟨_, pss_one (ps_ret (pe_ix ix_list (pe_lst (pa_cons pe_str (pa_cons pe_str (pa_cons pe_str (pa_cons pe_str pa_nil))))) (pe_call GT hr (by rfl) mT kT bT .nil pass0 (pa_cons (pv 0) (pa_cons pe_int pa_nil))) (fun _ _ => rfl))), ?_⟩
    refine ⟨(by show 4 ≤ sizeLine; decide), fun p hp => ?_⟩
    have sm := same_new hp (.lst [V.str "ab", .str "abc", .str "ac", .str "abcd"])
    refine ⟨_, rfl, r, a, ns, 4, rfl, R.stp sm, by decide, by decide, fun k1 H1 h0 h1 s1 R1 => ?_⟩
    have hL : SqL K H1 p [V.str "ab", .str "abc", .str "ac", .str "abcd"] := .inl (.inl (s1 _ _ upd_same (R.nw hp).symm))
    have hk : k1 = 0 ∨ k1 = 1 ∨ k1 = 2 ∨ k1 = 3 := by omega
    rcases hk with e | e | e | e
    · exact ⟨p, _, k1, V.str (T [97, 98]), rfl, rfl, hL, at_of (j := 0) e (by decide +kernel), q _ H1 (by decide) ((Stp.of sm).trans s1) R1⟩
    · exact ⟨p, _, k1, V.str (T [97, 98, 99]), rfl, rfl, hL, at_of (j := 1) e (by decide +kernel), q _ H1 (by decide) ((Stp.of sm).trans s1) R1⟩
    · exact ⟨p, _, k1, V.str (T [97, 99]), rfl, rfl, hL, at_of (j := 2) e (by decide +kernel), q _ H1 (by decide) ((Stp.of sm).trans s1) R1⟩
    · exact ⟨p, _, k1, V.str (T [97, 98, 99, 100]), rfl, rfl, hL, at_of (j := 3) e (by decide +kernel), q _ H1 (by decide) ((Stp.of sm).trans s1) R1⟩
end
end Say
namespace Say
open PySem PySem.Spec PyProof.Rows L2 L2.DX
theorem let_ok {L : List Nat} (h : L ∈ lets) : LetOk L := by
  have : ∀ L ∈ lets, LetOk L := by
    intro L h
    simp only [lets, List.mem_cons, List.not_mem_nil, or_false] at h
    rcases h with rfl | rfl | rfl | rfl <;> exact ⟨by decide, by decide, by decide, by decide⟩
  exact this L h
section
variable {P : Program} {w : World} {K : PySem.W.Frag} {mg : Str → Option Value} {base : Heap}
abbrev sLBk : Stmt := topS 58
theorem scLBk : FnScope ["_law_row_here", "_law_letters_here"] ["_law_row_here"] (defScope sLBk) := ⟨rfl, rfl, rfl, by decide +kernel, rfl, by decide +kernel, by decide +kernel⟩
def spLB4 (K : PySem.W.Frag) : Sp := fun vs H Q _ => ∃ (r a : Addr) (ns : List Int), vs = [.ref r] ∧ RowAt K H r a ns ∧
  ∀ (b : Addr) (L : List Nat) (rs : List Rule) (es : List Exc) (H' : Hp), BookOk L rs es → ((∀ e ∈ es, e.1.length ≤ 4) ∧ rs.length ≤ 10) → BookAt H' b L rs es → Stp r H H' → RowAt K H' r a ns → Q (.ref b) H'
theorem ok_LB4 {f : Addr} {fd : FuncData} (F : Fun K "_law_book" "_law_book" sLBk f fd) (DLe : Df P w K mg base "_law_letters" ["_law_row_here"] 2 (spLetters K))
    (DRu : Df P w K mg base "_law_rules" ["_law_row_here", "_law_letters_here", "_law_most"] 4 (spRules K)) (DEx : Df P w K mg base "_law_exceptions" ["_law_row_here", "_law_letters_here", "_law_most"] 3 (spLE4 K)) :
    FnOk P w K mg base CX0 5 f fd ["_law_row_here"] (spLB4 K) := by
  obtain ⟨fL, fdL, GL, kL, bL, mL⟩ := DLe
  obtain ⟨fR, fdR, GR, kR, bR, mR⟩ := DRu
  obtain ⟨fE, fdE, GE, kE, bE, mE⟩ := DEx
  refine F.ok scLBk (fun vs H Q E h => ?_) (fun cdv A outer s H vs Q E hr h => ?_)
  · obtain ⟨r, a, ns, rfl, _⟩ := h
    rfl
  · obtain ⟨r, a, ns, rfl, R, q⟩ := h
    refine ⟨_, pss_cons (ps_set (i := 1) scLBk.nd rfl (.inl rfl) (pe_call GL (hr.mono (by decide)) (by rfl) mL kL bL .nil pass0 (pa_cons (pv 0) pa_nil)))
      (pss_one (ps_ret (pe_tup (pa_cons (pv 1) (pa_cons (pe_call GR hr (by rfl) mR kR bR .nil pass0 (pa_cons (pv 0) (pa_cons (pv 1) (pa_cons pe_int pa_nil))))
        (pa_cons (pe_call GE (hr.mono (by decide)) (by rfl) mE kE bE .nil pass0 (pa_cons (pv 0) (pa_cons (pv 1) (pa_cons pe_int pa_nil)))) pa_nil)))))), ?_⟩
    refine ⟨_, rfl, r, a, ns, rfl, R, fun L H1 hL s1 R1 => ?_⟩
    have oL := let_ok hL
    have l2 := oL.l2
    have l4 := oL.l4
    refine ⟨_, rfl, _, rfl, _, rfl, r, a, ns, L, 6, rfl, R1, by omega, by omega, by decide, fun rs Ra H2 ho hlen hR s2 R2 => ?_⟩
    refine ⟨_, rfl, _, rfl, r, a, ns, L, 3, rfl, R2, oL, by decide, fun es X H3 hes hel hup hX s3 R3 => ?_⟩
    refine ⟨(by show 3 ≤ sizeLine; decide), fun b hb => ?_⟩
    have sb := same_new hb (.tup [.str (T L), .ref Ra, .ref X])
    exact q b L rs es _ ⟨oL, ho, by omega, fun e he => (hes e he).1, by omega, hup⟩ ⟨fun e he => (hes e he).2, by omega⟩ ⟨Ra, X, upd_same, hR.kt ((R2.kt s3).trans (.of sb)), hX.kt (.of sb)⟩ (s1.trans (s2.trans (s3.trans (.of sb)))) (R3.stp sb)
end
end Say
namespace PySem
namespace UnsX
open PySem.W PySem.Calls PyProof.Rows PySem.HandSPX
/-! ### the text of Unsaid.__init__ -/
abbrev sUns : Stmt := L2.inClass (Say.topS 6) 0
abbrev iA : Arguments := L2.defArgs sUns
abbrev iB : List Stmt := L2.defBody sUns
abbrev iS : Scope := L2.defScope sUns
def eF : Expr := match iB with
  | .Expr (.Call _ (e :: _) _ _) _ :: _ => e
  | _ => .Constant .none 0 ⟨0, 0, 0, 0⟩
theorem eF_eq : ∃ c1 c2 c3 c4, eF = .JoinedStr [.Constant (.str "no rule fits at place ") 0 c1, .FormattedValue (.Name "place" c2) (-1) none c3] c4 := ⟨_, _, _, _, rfl⟩
theorem iS_cell : ∀ y ∈ iS.names, y.2 ≠ .cell := by decide +kernel
/-- what the written part says of Unsaid, at C, and of its __init__, at fI -/
structure UnsTxt (P : Program) (K : Frag) (mg : Str → Option Value) (C fI : Addr) : Prop where
  gC : mg "Unsaid" = some (.ref C)
  sB : mg "super" = none
  cls : ∃ nm q N bs bm sn sub ab col dd k0 k1 k2 k3 k5, K.lookup C = some (excClassObj nm q C N bs bm true sn sub ab col dd k0 k1 k2 k3 k5 "ValueError.__new__") ∧ refsVE bm = true
  sa : findIn K (.ref C) "__setattr__" = some (some (.builtin "object.__setattr__"))
  noP : findIn K (.ref C) "place" = some none
  iC : findIn K (.ref C) "__init__" = some (some (.ref fI))
  tC : typeIn K (.ref fI) = some (.type "function")
  kC : keepIn K (.ref C) = true
  exC : subIn K (.ref C) (.type "BaseException") = some true
  tyC : typeIn K (.ref C) = some (.type "type")
  sup : ks_superIn K C C "__init__" = some (some (.builtin "ValueError.__init__"))
  subV : subIn K (.ref C) (.type "ValueError") = some true
  any : nsIn K cStatics "thirdparty.any" = some none
  main : (P.main.scope.names.lookup ("super" : Str)).isSome = false
  fn : ∃ (oc : Value) (od : Option Addr) (doc pm : Value) (an : Option Addr) (cda cc : Addr) (ct : Value) (osl : Array (Option Value)),
    K.lookup fI = some ⟨oc, od, .func (ksFn "__init__" "Unsaid.__init__" iA iB iS .none .none doc pm an (.ref cda) ct cc), osl⟩ ∧ codeIn K (.ref cda) "Unsaid.__init__" = true ∧
    (∃ cl cld csl, K.lookup cc = some ⟨cl, cld, .cell (some (.ref C)), csl⟩) ∧ ∃ ccl cdd vs ccs file tf, K.lookup cda = some ⟨ccl, cdd, .fields vs, ccs⟩ ∧ vs[2]? = some (.str file tf) ∧ ((P.main.file : Str) == file) = true
/-- what __init__ leaves of a fresh exception at x -/
structure InitEnd (h h' : Heap) (x C dx : Addr) (v : Value) : Prop where
  keep : ∀ b o, b ≠ x → h.get? b = some o → h'.get? b = some o
  obj : ∃ t1 : Addr, h'.get? x = some { cls := .ref C, dict := some dx, data := .fields #[.ref t1, .none, .none, .none, .bool false, .none] }
  dbig : h.objs.size ≤ dx
  dne : dx ≠ x
  ns : h'.Ns1 dx (fun y => if y = "place" then some v else none)
section
variable {prog : Program} {w : World} {A : Around} {E : Value → Shared → Prop} {R : Result → Shared → Prop} {s : Shared} {K : Frag} {mg : Str → Option Value} {C fI : Addr} {base : Heap}
theorem ld {M : Model} {s : Shared} {env : Env} {m : Str → Option Value} {x : Str} {pos : Pos} {v : Value} {Q : Value → Shared → Prop} {A : Around} {E : Value → Shared → Prop} (hn : s.heap.Ns env.locals m) (hv : m x = some v) (h : Q v s)
    (hk : env.scope.kind = .function) (hl : env.kindOf x = some .local) (hd : (x == ("__debug__" : Str)) = false := by decide) :
    wpAny M A (eval (.Name x pos) env) Q E s := wpAny_Name (wpAny_loadName_local hk hl hn hv h) hd
theorem uns_init (T : UnsTxt prog K mg C fI) {x t0 : Addr} {i : Int} {ti : Tok} (B : L2.Mod K mg base) (kb : ∀ b o, base.get? b = some o → s.heap.get? b = some o) (hx : s.heap.get? x = some (excO C t0)) (hnx : base.get? x = none) (hi : i.natAbs.log2 < 1920) (hi2 : (toString i : Str).length ≤ 1000) (hroom : A.depth < recursionLimit)
    (hq : ∀ h' tk dx, InitEnd s.heap h' x C dx (.int i ti) → R (.ok (.ret .none)) { s with heap := h', toks := tk }) :
    codeAny (model prog w) A (.call (.ref fI) ⟨[.ref x, .int i ti], []⟩) R s := by
  obtain ⟨oc, od, doc, pm, an, cda, cc, ct, osl, ho, hcd, ⟨cl, cld, csl, hcell⟩, ccl, cdd, vs, ccs, file, tf, hcode, hvs, hfile⟩ := T.fn
  obtain ⟨nm, q, N, bs, bm, sn, sub, ab, col, dd, k0, k1', k2, k3, k5, hC, hbm⟩ := T.cls
  obtain ⟨hp, g, dr, tk0, os⟩ := s
  have hcl : clsIn K C = some { name := nm, bases := bs, mro := .ref C :: bm, ns := N, qualname := q, hasDict := true, slotNames := sn, subclasses := sub, abstract := ab, collection := col, hasDel := false } := by unfold clsIn; rw [hC] <;> rfl
  have X : K.In hp := B.kin.keeps kb
  have nl : hp.NoLimit := B.nolimit.keeps kb
  refine ks_codeAny_call_defAt (fd := ksFn "__init__" "Unsaid.__init__" iA iB iS .none .none doc pm an (.ref cda) ct cc) (body := iB) (binds := [("self", .ref x), ("place", .int i ti)])
    hroom (X _ _ ho) rfl nl (codeRec_of X hcd) rfl (BindsTo.of_eq (by first | rfl | with_unfolding_all rfl)) iS_cell (fun y hy => ?_) (fun h₀ hns k => ?_)
  · have e : y = (PySem.Str.ofString "self", Value.ref x) ∨ y = (PySem.Str.ofString "place", Value.int i ti) := by simpa using hy
    rcases e with rfl | rfl
    · exact (by decide +kernel : iS.names.lookup (PySem.Str.ofString "self") = some .local)
    · exact (by decide +kernel : iS.names.lookup (PySem.Str.ofString "place") = some .local)
  generalize hL : (Shared.heap ⟨hp, g, dr, tk0, os⟩).objs.size = L at hns ⊢
  have henv : callEnv (ksFn "__init__" "Unsaid.__init__" iA iB iS .none .none doc pm an (.ref cda) ct cc) L fI = ksEnv "Unsaid.__init__" iS L fI (.ref cda) cc := rfl
  rw [henv]
  have X0 : K.In h₀ := X.keeps k
  have hx0 := k _ _ hx
  have kb0 : ∀ b o, base.get? b = some o → h₀.get? b = some o := fun b o e => k b o (kb b o e)
  obtain ⟨oC, hC0, hC1⟩ : ∃ oC, h₀.get? C = some oC ∧ oC.data = .cls { name := nm, bases := bs, mro := .ref C :: bm, ns := N, qualname := q, hasDict := true, slotNames := sn, subclasses := sub, abstract := ab, collection := col, hasDel := false } := ⟨_, X0 _ _ hC, rfl⟩
  have I0 : InstAt h₀ x (excO C t0) C none := ⟨hx0, rfl, rfl, trivial⟩
  obtain ⟨mb, hb1, hb2⟩ := B.blt
  have hxC : x ≠ C := fun z => by
    rw [z, hC0] at hx0
    cases hx0
    cases hC1
  have hsub : mroIn K C (.ref C) = some true := by
    unfold mroIn
    rw [hcl]
    simp
  have nS : iS.names.lookup (PySem.Str.ofString "super") = some .globalImplicit := by decide +kernel
  have nC : iS.names.lookup (PySem.Str.ofString "__class__") = some .free := by decide +kernel
  have nx : iS.names.lookup (PySem.Str.ofString "self") = some .local := by decide +kernel
  have np : iS.names.lookup (PySem.Str.ofString "place") = some .local := by decide +kernel
  have hLx : L ≠ x := by
    rw [← hL]
    exact Nat.ne_of_gt (Heap.lt_size hx)
  refine ks_wpAt_execs_cons (ks_wpAt_Expr_any (ks_wpAt_MethodCall (ks_wpAt_super_base nS nC (by decide +kernel) rfl (X0 _ _ ho) rfl rfl rfl (X0 _ _ hcode) rfl hvs hfile T.main ?_)))
  refine ks_loadName_global rfl nS (loadGlobal_builtin (B.glob.keeps kb0) T.sB (hb1.keeps kb0) ((hb2 _ (by decide +kernel)).trans (by decide +kernel)) ⟨rfl, ?_⟩)
  refine wpAny_loadName_free rfl nC rfl ⟨_, X0 _ _ hcell, rfl⟩ ?_
  refine wpAny_loadName_local rfl nx hns rfl ?_
  refine ks_wpAny_isType_cls hC0 hC1 ⟨rfl, ?_⟩
  refine ks_wpAny_call_super hC0 hC1 hx0 rfl (fun c e => by cases e) (looks_mroIn X0 hsub) (fun h1 e1 k1 => ?_)
  have X1 : K.In h1 := X0.keeps k1
  have hx1 := k1 _ _ hx0
  have I1 : InstAt h1 x (excO C t0) C none := ⟨hx1, rfl, rfl, trivial⟩
  have hf : alongIn K "__init__" (((Value.ref C :: bm).dropWhile (· != .ref C)).drop 1) = some (some (.builtin "ValueError.__init__")) := by
    have := T.sup
    unfold ks_superIn at this
    rw [hcl] at this
    exact this
  refine kxs_getMethod kxs_ValueError e1 (looks_opaque X1 T.any) (l₀ := .ref C :: bm) (fun A Q E s k q => wpAny_bind ((looks_clsIn X1 hcl) A _ E s k (wpAny_pure q))) rfl X1 hf (I1.type.andThen (looks_subIn X1 T.subV)) hxC (by decide +kernel) ?_
  have hu : (h1.push (kxs_mw "ValueError.__init__" x)).get? h1.objs.size = some (kxs_mw "ValueError.__init__" x) := Heap.get?_push_size _ rfl
  have k2' : ∀ b o, h₀.get? b = some o → (h1.push (kxs_mw "ValueError.__init__" x)).get? b = some o := fun b o e => Heap.get?_push_of_some _ (k1 b o e)
  generalize h1.push (kxs_mw "ValueError.__init__" x) = h2 at hu k2' ⊢
  generalize h1.objs.size = u at hu ⊢
  have X2 : K.In h2 := X0.keeps k2'
  have hx2 := k2' _ _ hx0
  have hns2 := hns.keeps k2'
  -- the text that is handed on
  show wpAny _ _ (callWith _ (.ref u) [] _ []) _ _ _
  refine kxs_callWith (i := "ValueError.__init__") (x := x) rfl (evalArgs_plain ?_)
  show wpAny _ _ (spliced ((false, eval eF (ksEnv "Unsaid.__init__" iS L fI (.ref cda) cc)) :: [])) _ _ _
  obtain ⟨c1, c2, c3, c4, eFe⟩ := eF_eq
  rw [eFe]
  refine Calls.spliced_cons (wpAny_JoinedStr ?_)
  refine wpAny_Constant_str ⟨_, _, rfl, by decide +kernel, ?_⟩
  refine wpAny_FormattedValue_plain (ld hns2 rfl ?_ rfl np) 
  have hlen : (Str.empty ++ PySem.Str.ofString "no rule fits at place " ++ (toString i : Str)).length ≤ sizeLine := by
    rw [TL.len_tl, TL.tl_append, List.length_append, ← TL.len_tl, ← TL.len_tl, sizeLine_eq]
    have : (Str.empty ++ PySem.Str.ofString "no rule fits at place ").length = 22 := by decide +kernel
    omega
  refine wpAny_formatField_int hi ⟨_, _, rfl, hlen, ?_⟩
  refine ⟨hlen, ?_⟩
  refine Calls.spliced_nil ⟨hu, ?_⟩
  refine wpAny_call (codeAny_of_tree ?_)
  show wpAny _ _ (callAny (.ref u) ⟨_, []⟩) _ _ _
  simp only [callAny]
  refine wpAny_bind (wpAny_load hu ?_)
  simp only [kxs_mw, show (Value.type "method-wrapper" == Value.type "method" || Value.type "method-wrapper" == Value.type "builtin_function_or_method" || Value.type "method-wrapper" == Value.type "method-wrapper") = true by decide, if_true]
  refine KFB.if_so (by decide) ?_
  refine wpAny_bind (check_bound_init F.excBase_ValueError.toExcCallFacts (X2 _ _ hC) hx2 rfl ?_)
  refine wpAny_bind (wpAny_pure (wpAny_pure ?_))
  refine ⟨plainId_quiet F.excBase_ValueError.init.plain _, codeAny_builtin F.excBase_ValueError.initEntry ?_⟩
  refine exc_init_tree (cls := .ref C) (t0 := t0) (dv := none) (c2 := .none) (c3 := .none) (b4 := .bool false) hx2 (by rw [sizeLine_eq]; show 1 ≤ 16777216; decide) fun h3 k3 e3 _ => ?_
  have k3' : ∀ b o, b ≠ x → h₀.get? b = some o → h3.get? b = some o := fun b o hb e => k3 b o hb (k2' b o e)
  have X3 : K.In h3 := fun b o e => k3' b o (fun z => by
    have := B.kin b o e
    rw [z, hnx] at this
    cases this) (X0 b o e)
  have hns3 : h3.Ns L (fun y => (([("self", Value.ref x), ("place", .int i ti)] : List (Str × Value)).reverse.lookup y)) := hns.at fun o e => k3' L o hLx e
  show wpAt _ _ _ (execs (_ :: []) _) _ _ _
  refine ks_wpAt_execs_cons (ks_wpAt_Assign_Attr (wpAt_of_wpAny (ld hns3 rfl (ld hns3 rfl ?_ rfl nx) rfl np)))
  refine set_plain X3 (ox := excO C h2.objs.size) (od := none) ⟨e3, rfl, rfl, trivial⟩ T.sa ?_
  refine exc_osa X3 e3 hcl (show refsVE (.ref C :: bm) = true from hbm) rfl T.noP (fun h4 tk4 dx k4 dn dne hx4 hn4 => ?_)
  show wpAt _ _ _ (execs [] _) _ _ _
  refine wpAt_of_wpAny (wpAny_execs_nil ?_)
  have big : hp.objs.size ≤ dx := by
    have h1 : L < h3.objs.size := hns3.lt
    have h2 : hp.objs.size = L := hL
    exact Nat.le_trans (Nat.le_of_eq h2) (Nat.le_trans (Nat.le_of_lt h1) dn)
  exact hq h4 _ dx ⟨fun b o hb e => k4 b o hb (k3' b o hb (k b o e)), ⟨_, hx4⟩, big, dne, hn4⟩
end
end UnsX
end PySem
namespace PySem
namespace UnsX
open PySem.W PySem.Calls PyProof.Rows PySem.HandSPX
/-- a made Unsaid -/
structure OwnMade (h h' : Heap) (e C d : Addr) (v : Value) : Prop where
  keep : ∀ b o, h.get? b = some o → h'.get? b = some o
  new : h.objs.size ≤ e
  obj : ∃ oe vs, h'.get? e = some oe ∧ oe.cls = .ref C ∧ oe.dict = some d ∧ oe.data = .fields vs ∧ vs[1]? = some .none
  dbig : h.objs.size ≤ d
  dne : d ≠ e
  ns : h'.Ns1 d (fun y => if y = "place" then some v else none)
theorem one_size (v : Value) : [v].length ≤ sizeLine := by
  rw [sizeLine_eq]
  exact (by decide : 1 ≤ 16777216)
section
variable {prog : Program} {w : World} {A : Around} {E : Value → Shared → Prop} {R : Result → Shared → Prop} {s : Shared} {K : Frag} {mg : Str → Option Value} {C fI : Addr} {base : Heap}
theorem uns_made (T : UnsTxt prog K mg C fI) {i : Int} {ti : Tok} (B : L2.Mod K mg base) (kb : ∀ b o, base.get? b = some o → s.heap.get? b = some o) (hi : i.natAbs.log2 < 1920) (hi2 : (toString i : Str).length ≤ 1000) (hroom : A.depth + 1 < recursionLimit)
    (hq : ∀ h' tk e d, OwnMade s.heap h' e C d (.int i ti) → R (.ok (.ret (.ref e))) { s with heap := h', toks := tk }) :
    codeAny (model prog w) A (.call (.ref C) ⟨[.int i ti], []⟩) R s := by
  obtain ⟨nm, q, N, bs, bm, sn, sub, ab, col, dd, k0, k1, k2, k3, k5, hC, hbm⟩ := T.cls
  have X : K.In s.heap := B.kin.keeps kb
  obtain ⟨hp, g, dr, tk, os⟩ := s
  have k : ∀ b o, hp.get? b = some o → ((hp.push (kdv_tup [.int i ti])).push (excO C hp.objs.size)).get? b = some o := fun b o e => Heap.get?_push_of_some _ (Heap.get?_push_of_some _ e)
  have hget : ((hp.push (kdv_tup [.int i ti])).push (excO C hp.objs.size)).get? (hp.objs.size + 1) = some (excO C hp.objs.size) := by heap_get
  have hnx : base.get? (hp.objs.size + 1) = none := by
    cases e : base.get? (hp.objs.size + 1) with
    | none => rfl
    | some o =>
      have z : hp.get? (hp.objs.size + 1) = some o := kb _ _ e
      exact absurd (Nat.lt_of_succ_lt (Heap.lt_size z)) (Nat.lt_irrefl _)
  refine call_own F.excBase_ValueError (fun X => refsVE_contains X bm hbm) (X _ _ hC) (looks_findIn X T.iC) (fun self => bind_fn X self T.tC) (one_size (.int i ti)) ?_
  refine uns_init (s := ⟨(hp.push (kdv_tup [.int i ti])).push (excO C hp.objs.size), g, dr, tk, os⟩) T B (fun b o e => k b o (kb b o e)) hget hnx hi hi2 ?_ fun h' tk' dx ⟨k', ⟨t1, hx⟩, dn, dne, hns⟩ => ?_
  · show A.depth + 1 < recursionLimit
    exact hroom
  · have old : ∀ b o, hp.get? b = some o → h'.get? b = some o := fun b o e => k' b o (Nat.ne_of_lt (Nat.lt_succ_of_lt (Heap.lt_size e))) (k b o e)
    have z : hp.objs.size + 1 + 1 ≤ dx := by
      first
        | (simpa only [Heap.size_push] using dn)
        | exact dn
        | (have q := dn; rw [Heap.size_push, Heap.size_push] at q; exact q)
    exact ⟨rfl, hq h' tk' (hp.objs.size + 1) dx ⟨old, Nat.le_succ _, ⟨_, _, hx, rfl, rfl, rfl, rfl⟩, Nat.le_trans (Nat.le_trans (Nat.le_succ _) (Nat.le_succ _)) z, dne, hns⟩⟩
end
end UnsX
end PySem
namespace Say
open PySem PySem.Spec PyProof.Rows L2
theorem relO_pl {v : V} {v' : Value} (r : RelV v v') (f : Str) : RelO (List.lookup f [(("place" : Str), v)]) (if f = "place" then some v' else none) := by
  by_cases hw : f = "place"
  · subst hw
    rw [if_pos rfl]
    have q : List.lookup ("place" : Str) [(("place" : Str), v)] = some v := by simp [List.lookup]
    rw [q]
    exact r
  · rw [if_neg hw]
    have qw : (f == ("place" : Str)) = false := by simpa using hw
    have q2 : List.lookup f [(("place" : Str), v)] = none := by simp [List.lookup, qw]
    rw [q2]
    trivial
section
variable {X : Cx} {C fI : Addr}
/-- Unsaid(e) -/
def tMkUns (C : Addr) (ta : TA) : L2.St → Hp → XK → Prop := fun σ H Q => ta σ H fun vs H1 => ∃ p : Nat, vs = [.int p] ∧ p ≤ 100 ∧ ∀ d, H1 d = none → Q (.ref C) (some d) (upd H1 d (.xd [(("place" : Str), .int p)]))
theorem small_num {p : Nat} (h : p ≤ 100) : (p : Int).natAbs.log2 < 1920 ∧ (toString (p : Int) : Str).length ≤ 1000 := by
  have key : ∀ q : Fin 101, ((q.1 : Int)).natAbs.log2 < 1920 ∧ (toString (q.1 : Int) : Str).length ≤ 1000 := by decide +kernel
  exact key ⟨p, by omega⟩
theorem pmk_uns {a : Expr} {ta : TA} {p pos : Pos} {k : Nat} (T : PySem.UnsX.UnsTxt X.prog X.K X.mg C fI) (hr : Room k X.A) (ha : PA X [a] ta) (hg : Gl X "Unsaid" := by rfl)
    (he : starEach (a :: []) X.env = (false, eval a X.env) :: starEach [] X.env := by rfl) (hpl : (backTo pos (starEach [] X.env)).any (·.1) = false := by rfl) :
    PMk X (.Call (.Name "Unsaid" p) [a] [] pos) (tMkUns C ta) := by
  intro pins s σ H Q I h
  unfold tMkUns at h
  refine wpAny_Call_Name_kw (ld_glob I hg T.gC ?_)
  refine PySem.W.callWith_K (h₀ := X.base) I.ok.mod.kin T.kC (thn (ha.run pos pins s σ H _ I h) fun us s1 hh => ?_) he hpl
  obtain ⟨vs, H1, I1, r1, n, ev, hn, q1⟩ := hh
  subst ev
  refine ⟨I1.kIn, ?_⟩
  cases r1 with
  | cons rv rn =>
    rename_i v' us'
    cases rn
    obtain ⟨tv, rfl⟩ := rv
    show wpAny _ _ (call (.ref C) [.int n tv]) _ _ _
    have b1 := I1.mod
    have b2 := I1.bk
    obtain ⟨hp, g, dr, tk, os⟩ := s1
    refine wpAny_call (PySem.UnsX.uns_made T b1 b2 (small_num hn).1 (small_num hn).2 (by have := hr.dp; omega) fun h' tk' e d M => ?_)
    show MkP X pins σ Q (.ref e) ⟨h', g, dr, tk', os⟩
    obtain ⟨oe, fv, hoe, hc, hd, hdat, h1⟩ := M.obj
    have hns := M.ns
    obtain ⟨G', g1, g2⟩ := restrict h' fun b => decide (b ≠ e)
    have gk : ∀ b, b ≠ e → G'.get? b = h'.get? b := fun b hb => g1 b (decide_eq_true hb)
    have ge : G'.get? e = none := g2 e (by simp)
    have old : ∀ b o, hp.get? b = some o → G'.get? b = some o := fun b o q => (gk b (Nat.ne_of_lt (Nat.lt_of_lt_of_le (Heap.lt_size q) M.new))).trans (M.keep b o q)
    have ob : ObjOk X.prog X.w (upd H1 d (.xd [(("place" : Str), .int n)])) G' d (.xd [(("place" : Str), .int n)]) :=
      ⟨_, hns.at (fun o q => (gk d M.dne).trans q), fun f => relO_pl (v := .int n) ⟨tv, rfl⟩ f⟩
    have J : Inv X pins σ (upd H1 d (.xd [(("place" : Str), .int n)])) ⟨G', g, dr, tk', os⟩ := I1.laid (t' := tk') old M.dbig ob
    refine ⟨e, oe, fv, ⟨G', g, dr, tk', os⟩, _, .ref C, some d, rfl, J, fun b o q => ?_, ge, hoe, ⟨hc, hd⟩, hdat, h1, ?_, rfl, I1.bare, raises_own T.exC T.tyC, q1 d (I1.hok.fresh M.dbig)⟩
    · by_cases hb : b = e
      · have q' : G'.get? b = some o := q
        rw [hb, ge] at q'; cases q'
      · exact (gk b hb).symm.trans q
    · rw [upd_ne (Ne.symm M.dne)]
      exact I1.hok.fresh M.new
/-- raise Unsaid(e) -/
def tRaiseUns (C : Addr) (W : WX) (ta : TA) : TS := fun _ σ H => tMkUns C ta σ H fun cls d H' => W cls d σ H'
theorem ps_raiseUns {a : Expr} {ta : TA} {W : WX} {p pos pos2 : Pos} {k : Nat} (hc : X.calm = true) (T : PySem.UnsX.UnsTxt X.prog X.K X.mg C fI) (hr : Room k X.A) (tk : Takes X W) (ha : PA X [a] ta) (hg : Gl X "Unsaid" := by rfl)
    (he : starEach (a :: []) X.env = (false, eval a X.env) :: starEach [] X.env := by rfl) (hpl : (backTo pos (starEach [] X.env)).any (·.1) = false := by rfl) :
    PS X (.Raise (some (.Call (.Name "Unsaid" p) [a] [] pos)) none pos2) (tRaiseUns C W ta) := ps_raise hc tk (pmk_uns T hr ha hg he hpl)
end
end Say
namespace Say
open PySem PySem.Spec PyProof.Rows L2
theorem count_eqU {x : V} : ∀ {xs : List V} {us : List Value}, Vals xs us → xs.all flatV = true → us.countP (eqU x) = xs.countP fun y => eqV y x
  | _, _, .nil, _ => rfl
  | y :: xs, u :: us, .cons r t, f => by
    rw [List.all_cons, Bool.and_eq_true] at f
    have ih := count_eqU (x := x) t f.2
    rw [List.countP_cons, List.countP_cons, ih, eqU_of r f.1]
section
variable {X : Cx}
/-- l.count(y) of plain values -/
def rCntV (K : PySem.W.Frag) : V → List V → Hp → VK → Prop := fun x xs H Q => ∃ (p : Addr) (ys : List V) (y : V), x = .ref p ∧ xs = [y] ∧ SqL K H p ys ∧ flatV y = true ∧ ys.all flatV = true ∧ Q (.int ((ys.countP fun z => eqV z y : Nat) : Int)) H
theorem mt_countV : MtR X "list.count" (rCntV X.K) := by
  intro pins s σ H x xs v us Q I rx rxs h
  obtain ⟨p, ys, y, rfl, rfl, hs, fy, fys, q⟩ := h
  cases rx
  obtain ⟨u, rfl, ru⟩ := rxs.one
  obtain ⟨its, rv, ⟨⟨cls, dd, data, sl⟩, n, ho, hc, hdn, hd⟩, hlen⟩ := I.list hs
  simp only at hc hd
  subst hc hd
  refine call_meets PySem.F.slot_list_count ⟨_, ho, rfl⟩ PySem.F.entry_list_count (PySem.F.args_list_count_2 _ _)
    (SeqAt.list_countAt p its.toArray n dd sl u (eqU y)) ⟨ho, fun u' hu' => mem_eqAt ru fy rv fys u' (by simpa using hu'), ?_⟩
  have ec : its.toArray.toList.countP (eqU y) = ys.countP fun z => eqV z y := count_eqU rv fys
  refine ⟨.int _, H, I.tok _, ⟨s.toks, ?_⟩, q⟩
  rw [ec]
/-- isinstance(e, c), e the caught one, an instance of D with a dict -/
def rIsED (K : PySem.W.Frag) (D a : Addr) (cls : Value) (d : Option Addr) : List V → Hp → VK → Prop := fun xs H Q => ∃ (c : V) (cv : Value) (b : Bool) (dd : Addr) (fs : List (Str × V)), xs = [.ref a, c] ∧ ClsV c cv ∧ cls = .ref D ∧ d = some dd ∧ H dd = some (.xd fs) ∧ PySem.W.kitOne K (.ref D) cv = some b ∧ Q (.bl b) H
theorem call_isED {a D : Addr} {oe : Obj} {cls : Value} {d : Option Addr} {pn : List (Addr × Obj)} (C : ExcC X.K D) (hz : Zc cls d oe) (hf : ∃ vs, oe.data = .fields vs) : CallR (X.suite a ((a, oe) :: pn)) (.builtin "isinstance") (rIsED X.K D a cls d) := by
  intro pins s σ H xs us Q I r h
  obtain ⟨c, cv, b, dd, fs, rfl, hcv, ecl, ed, hH, e, q⟩ := h
  subst ed
  subst ecl
  obtain ⟨u1, u2, rfl, r1, r2⟩ := vals2 r
  cases (show u1 = Value.ref a from r1)
  have ec := hcv.eq r2
  subst ec
  obtain ⟨hget, _⟩ := I.pin (a, oe) (List.mem_append.mpr (.inl List.mem_cons_self))
  obtain ⟨vs, hv⟩ := hf
  have hx : ObjOk X.prog X.w H s.heap dd (.xd fs) := I.hok dd _ hH
  obtain ⟨mA, hns, hr⟩ := hx
  obtain ⟨od, ho, hl⟩ := lookIn_ns hns
  have J : PySem.W.InstAt s.heap a oe D (some od) := ⟨hget, hz.1, by unfold PySem.W.notCls; rw [hv] <;> rfl, by rw [hz.2]; exact ho⟩
  have hcl : (PySem.W.clsIn X.K D).isSome = true := by
    obtain ⟨cd, hc, _⟩ := PySem.W.any_some C.hd
    rw [hc]; rfl
  exact PySem.W.kia_one (PySem.W.kitx_exc hcl C.hg C.hk C.hs C.ha C.hn C.ht C.hm) I.kIn J e (fun z => nomatch z) fun tk => ⟨.bl b, H, I.kept (t' := tk) fun _ _ z => z, rfl, q⟩
/-- what may be known of the caught one's dict -/
def Held (H : Hp) (d : Option Addr) : Prop := d = none ∨ ∃ (dd : Addr) (fs : List (Str × V)), d = some dd ∧ H dd = some (.xd fs)
theorem Held.same {H H' : Hp} {d : Option Addr} (h : Held H d) (e : ∀ b o, H b = some o → H' b = some o) : Held H' d := by
  rcases h with h | ⟨dd, fs, h1, h2⟩
  · exact .inl h
  · exact .inr ⟨dd, fs, h1, e _ _ h2⟩
/-- isinstance(e, c), e the caught one, an instance of D -/
def rIsEA (K : PySem.W.Frag) (D a : Addr) (cls : Value) (d : Option Addr) : List V → Hp → VK → Prop := fun xs H Q => ∃ (c : V) (cv : Value) (b : Bool), xs = [.ref a, c] ∧ ClsV c cv ∧ cls = .ref D ∧ Held H d ∧ PySem.W.kitOne K (.ref D) cv = some b ∧ Q (.bl b) H
theorem call_isEA {a D : Addr} {oe : Obj} {cls : Value} {d : Option Addr} {pn : List (Addr × Obj)} (C : ExcC X.K D) (hz : Zc cls d oe) (hf : ∃ vs, oe.data = .fields vs) : CallR (X.suite a ((a, oe) :: pn)) (.builtin "isinstance") (rIsEA X.K D a cls d) := by
  intro pins s σ H xs us Q I r h
  obtain ⟨c, cv, b, rfl, hcv, ecl, hH, e, q⟩ := h
  subst ecl
  obtain ⟨u1, u2, rfl, r1, r2⟩ := vals2 r
  cases (show u1 = Value.ref a from r1)
  have ec := hcv.eq r2
  subst ec
  obtain ⟨hget, _⟩ := I.pin (a, oe) (List.mem_append.mpr (.inl List.mem_cons_self))
  obtain ⟨vs, hv⟩ := hf
  have hcl : (PySem.W.clsIn X.K D).isSome = true := by
    obtain ⟨cd, hc, _⟩ := PySem.W.any_some C.hd
    rw [hc]; rfl
  obtain ⟨od, J⟩ : ∃ od, PySem.W.InstAt s.heap a oe D od := by
    rcases hH with ed | ⟨dd, fs, ed, hH⟩
    · subst ed
      obtain ⟨oc, od, oda, osl⟩ := oe
      obtain ⟨h1, h2⟩ := hz
      dsimp only at h1 h2 hv
      subst h1 h2 hv
      exact ⟨none, hget, rfl, rfl, trivial⟩
    · subst ed
      have hx : ObjOk X.prog X.w H s.heap dd (.xd fs) := I.hok dd _ hH
      obtain ⟨mA, hns, hr⟩ := hx
      obtain ⟨od, ho, hl⟩ := lookIn_ns hns
      exact ⟨some od, hget, hz.1, by unfold PySem.W.notCls; rw [hv] <;> rfl, by rw [hz.2]; exact ho⟩
  exact PySem.W.kia_one (PySem.W.kitx_exc hcl C.hg C.hk C.hs C.ha C.hn C.ht C.hm) I.kIn J e (fun z => nomatch z) fun tk => ⟨.bl b, H, I.kept (t' := tk) fun _ _ z => z, rfl, q⟩
end
end Say
namespace Say
open PySem PySem.Spec PyProof.Rows L2
/-- what the top says of the classes that are asked for, the caught one's class at CU, the j-th of the twelve -/
structure WordC (K : PySem.W.Frag) (mg : Str → Option Value) (CU : Addr) (j : Nat) : Prop where
  say : ∃ c, mg "SayError" = some (.ref c) ∧ PySem.W.exmOne K (.ref CU) (.ref c) = some true
  book : ∃ c, mg "BadBook" = some (.ref c) ∧ PySem.W.kitOne K (.ref CU) (.ref c) = some (decide (0 = j))
  word : ∃ c, mg "BadWord" = some (.ref c) ∧ PySem.W.kitOne K (.ref CU) (.ref c) = some (decide (1 = j))
  snds : ∃ c, mg "BadSounds" = some (.ref c) ∧ PySem.W.kitOne K (.ref CU) (.ref c) = some (decide (2 = j))
  coun : ∃ c, mg "BadCount" = some (.ref c) ∧ PySem.W.kitOne K (.ref CU) (.ref c) = some (decide (3 = j))
  uns : ∃ c, mg "Unsaid" = some (.ref c) ∧ PySem.W.kitOne K (.ref CU) (.ref c) = some (decide (4 = j))
  lett : ∃ c, mg "NoLetter" = some (.ref c) ∧ PySem.W.kitOne K (.ref CU) (.ref c) = some (decide (5 = j))
  exce : ∃ c, mg "NoException" = some (.ref c) ∧ PySem.W.kitOne K (.ref CU) (.ref c) = some (decide (6 = j))
  othe : ∃ c, mg "OtherLetters" = some (.ref c) ∧ PySem.W.kitOne K (.ref CU) (.ref c) = some (decide (7 = j))
  samp : ∃ c, mg "BadSamples" = some (.ref c) ∧ PySem.W.kitOne K (.ref CU) (.ref c) = some (decide (8 = j))
  deed : ∃ c, mg "BadDeed" = some (.ref c) ∧ PySem.W.kitOne K (.ref CU) (.ref c) = some (decide (9 = j))
  halt : ∃ c, mg "Halted" = some (.ref c) ∧ PySem.W.kitOne K (.ref CU) (.ref c) = some (decide (10 = j))
  text : ∃ c, mg "BadText" = some (.ref c) ∧ PySem.W.kitOne K (.ref CU) (.ref c) = some (decide (11 = j))
  val : mg "ValueError" = none
  kv : PySem.W.kitOne K (.ref CU) (.type "ValueError") = some true
  exc : ExcC K CU
  xf : XfC K CU
  noP : PySem.W.findIn K (.ref CU) "place" = some none
  noN : PySem.W.findIn K (.ref CU) "number" = some none
  noA : PySem.W.findIn K (.ref CU) "part" = some none
  noD : PySem.W.findIn K (.ref CU) "done" = some none
  noR : PySem.W.findIn K (.ref CU) "row" = some none
/-- the name of the j-th -/
def nmJ (j : Nat) : Str := (["book", "word", "sounds", "count", "unsaid", "letter", "exception", "others", "samples", "deed", "halted", "text"] : List Str).getD j ""
def plainJ (j : Nat) : Bool := decide (j = 1) || (decide (j = 2) || (decide (j = 3) || (decide (j = 5) || (decide (j = 6) || decide (j = 7)))))
def toldJ (j : Nat) : Bool := decide (j < 12)
def bsJ (j : Nat) : List V := [.bl (decide (0 = j)), .bl (decide (1 = j)), .bl (decide (2 = j)), .bl (decide (3 = j)), .bl (decide (4 = j)), .bl (decide (5 = j)), .bl (decide (6 = j)), .bl (decide (7 = j)), .bl (decide (8 = j)), .bl (decide (9 = j)), .bl (decide (10 = j)), .bl (decide (11 = j))]
theorem plain_cases {j : Nat} (h : plainJ j = true) : j = 1 ∨ j = 2 ∨ j = 3 ∨ j = 5 ∨ j = 6 ∨ j = 7 := by
  unfold plainJ at h
  simpa using h
theorem told_cases {j : Nat} (h : toldJ j = true) : j = 0 ∨ j = 1 ∨ j = 2 ∨ j = 3 ∨ j = 4 ∨ j = 5 ∨ j = 6 ∨ j = 7 ∨ j = 8 ∨ j = 9 ∨ j = 10 ∨ j = 11 := by
  have h := of_decide_eq_true h
  omega
theorem told_facts {j : Nat} (h : toldJ j = true) : (bsJ j).all flatV = true ∧ ((bsJ j).countP fun z => eqV z (.bl true)) = 1 ∧ (bsJ j)[j]? = some (.bl true) ∧ (∀ (m : Nat) (z : V), m < j → (bsJ j)[m]? = some z → eqV z (.bl true) = false) ∧
    atI ([.str "book", .str "word", .str "sounds", .str "count", .str "unsaid", .str "letter", .str "exception", .str "others", .str "samples", .str "deed"] ++ [.str "halted", .str "text"] : List V) (j : Nat) = some (.str (nmJ j)) := by
  have key : ∀ (m : Nat) (z : V), m < j → (bsJ j)[m]? = some z → eqV z (.bl true) = false := fun m z hm hz => by
    have hj := of_decide_eq_true h
    have hk : ∀ a b : Nat, a ≠ b → eqV (.bl (decide (a = b))) (.bl true) = false := fun a b n => by rw [decide_eq_false n]; rfl
    match m, hm, hz with
    | 0, hm, e => cases e; exact hk _ _ (Nat.ne_of_lt hm)
    | 1, hm, e => cases e; exact hk _ _ (Nat.ne_of_lt hm)
    | 2, hm, e => cases e; exact hk _ _ (Nat.ne_of_lt hm)
    | 3, hm, e => cases e; exact hk _ _ (Nat.ne_of_lt hm)
    | 4, hm, e => cases e; exact hk _ _ (Nat.ne_of_lt hm)
    | 5, hm, e => cases e; exact hk _ _ (Nat.ne_of_lt hm)
    | 6, hm, e => cases e; exact hk _ _ (Nat.ne_of_lt hm)
    | 7, hm, e => cases e; exact hk _ _ (Nat.ne_of_lt hm)
    | 8, hm, e => cases e; exact hk _ _ (Nat.ne_of_lt hm)
    | 9, hm, e => cases e; exact hk _ _ (Nat.ne_of_lt hm)
    | 10, hm, e => cases e; exact hk _ _ (Nat.ne_of_lt hm)
    | 11, hm, e => cases e; exact hk _ _ (Nat.ne_of_lt hm)
    | m + 12, hm, e => omega
  rcases told_cases h with rfl | rfl | rfl | rfl | rfl | rfl | rfl | rfl | rfl | rfl | rfl | rfl
  all_goals exact ⟨rfl, rfl, rfl, key, rfl⟩
theorem plain_facts {j : Nat} (h : plainJ j = true) : nmJ j ≠ "book" ∧ nmJ j ≠ "halted" ∧ nmJ j ≠ "unsaid" ∧ nmJ j ≠ "text" ∧ nmJ j ≠ "samples" ∧ nmJ j ≠ "deed" := by
  rcases plain_cases h with rfl | rfl | rfl | rfl | rfl | rfl
  all_goals exact ⟨by decide +kernel, by decide +kernel, by decide +kernel, by decide +kernel, by decide +kernel, by decide +kernel⟩
/-- a wish that may ask how many slots there are -/
theorem takes_len {X : Cx} {W : WX} {n : Nat} (h : X.N.length = n) (tk : Takes X W) : Takes X (fun cls d σ H => σ.length = n → W cls d σ H) := fun u s' xx => by
  obtain ⟨a, B, sI, pins, σ, H, cls, d, e, I, nb, up, sky, na, os, ag, w⟩ := xx
  exact tk u s' ⟨a, B, sI, pins, σ, H, cls, d, e, I, nb, up, sky, na, os, ag, w (I.len.trans h)⟩
abbrev sLWo : Stmt := topS 61
abbrev nLWo : List Str := ["_law_work", "_law_found", "e", "_law_kinds", "_law_names", "_law_name"]
theorem scLWo : FnScope nLWo ["_law_work"] (defScope sLWo) := ⟨rfl, rfl, rfl, by decide +kernel, rfl, by decide +kernel, by decide +kernel⟩
abbrev suLWo : List Stmt := match defBody sLWo with
  | _ :: .Try _ (.ExceptHandler _ _ b _ :: _) _ _ _ :: _ => b
  | _ => []
section
variable {X : Cx} {g CU : Addr} {cdg : Value} {s : Shared} {H : Hp}
abbrev cxLWo (X : Cx) (g : Addr) (cdg : Value) (s : Shared) (H : Hp) : Cx := (cxOf C8.CX0 X.prog X.w X.K X.mg X.base nLWo "_law_word" (defScope sLWo) g cdg X.A X.stack s H C8.E0).nox
/-- what the caught one is told as -/
def tellsJ (j : Nat) (d : Option Addr) (H : Hp) (R : Hp → Addr → Prop) : Prop :=
  (j = 4 ∧ ∃ (dd : Addr) (p : Nat), d = some dd ∧ H dd = some (.xd [(("place" : Str), .int p)]) ∧ R = fun H2 t => H2 t = some (.tup [.str "unsaid", .int p])) ∨
  (plainJ j = true ∧ Held H d ∧ R = fun H2 t => H2 t = some (.tup [.str (nmJ j), .non])) ∨
  (j = 0 ∧ ∃ (dd : Addr) (p n : Int), d = some dd ∧ H dd = some (.xd [(("number" : Str), .int n), (("part" : Str), .int p)]) ∧ R = fun H2 t => ∃ q, H2 q = some (.tup [.int p, .int n]) ∧ H2 t = some (.tup [.str "book", .ref q])) ∨
  (j = 10 ∧ ∃ (dd : Addr) (n m : Int), d = some dd ∧ H dd = some (.xd [(("done" : Str), .int m), (("number" : Str), .int n)]) ∧ R = fun H2 t => ∃ q, H2 q = some (.tup [.int n, .int m]) ∧ H2 t = some (.tup [.str "halted", .ref q])) ∨
  (j = 11 ∧ ∃ (dd : Addr) (n : Int), d = some dd ∧ H dd = some (.xd [(("row" : Str), .int n)]) ∧ R = fun H2 t => H2 t = some (.tup [.str "text", .int n])) ∨
  ((j = 8 ∨ j = 9) ∧ ∃ (dd : Addr) (n : Int), d = some dd ∧ H dd = some (.xd [(("number" : Str), .int n)]) ∧ R = fun H2 t => H2 t = some (.tup [.str (nmJ j), .int n]))
theorem word_suite {j : Nat} (B : Bn X.mg) (WC : WordC X.K X.mg CU j) (a : Addr) (oe : Obj) (cls : Value) (d : Option Addr) (pn : List (Addr × Obj)) (hz : Zc cls d oe) (hf : ∃ vs, oe.data = .fields vs) : ∃ t : TS,
    PSs ((cxLWo X g cdg s H).suite a ((a, oe) :: pn)) suLWo t ∧
    ∀ (R : Hp → Addr → Prop) (D : Ends) (σ : L2.St) (H1 : Hp), cls = .ref CU → σ.length = 6 → H1 a = none → tellsJ j d H1 R → (∀ (t : Addr) (H2 : Hp), Same H1 H2 → R H2 t → D.rt (.ref t) H2) →
      t D (σ.set 2 (some (.ref a))) H1 := by
  obtain ⟨c1, m1, k1⟩ := WC.book
  obtain ⟨c2, m2, k2⟩ := WC.word
  obtain ⟨c3, m3, k3⟩ := WC.snds
  obtain ⟨c4, m4, k4⟩ := WC.coun
  obtain ⟨c5, m5, k5⟩ := WC.uns
  obtain ⟨c6, m6, k6⟩ := WC.lett
  obtain ⟨c7, m7, k7⟩ := WC.exce
  obtain ⟨c8, m8, k8⟩ := WC.othe
  obtain ⟨c9, m9, k9⟩ := WC.samp
  obtain ⟨c10, m10, k10⟩ := WC.deed
  obtain ⟨c11, m11, k11⟩ := WC.halt
  obtain ⟨c12, m12, k12⟩ := WC.text
  have EC := WC.exc
  have XF := WC.xf
  have isE : CallR ((cxLWo X g cdg s H).suite a ((a, oe) :: pn)) (.builtin "isinstance") (rIsEA X.K CU a cls d) := call_isEA (X := cxLWo X g cdg s H) EC hz hf
  refine ⟨_, pss_cons (ps_set (i := 3) scLWo.nd rfl (.inl rfl) (pe_lst (pa_cons (pe_callB isE (by rfl) B.isi (by decide +kernel) (pa_cons (pv 2) (pa_cons (pe_glob (v := .ref c1) (by rfl) m1 rfl) pa_nil))) (pa_cons (pe_callB isE (by rfl) B.isi (by decide +kernel) (pa_cons (pv 2) (pa_cons (pe_glob (v := .ref c2) (by rfl) m2 rfl) pa_nil)))
        (pa_cons (pe_callB isE (by rfl) B.isi (by decide +kernel) (pa_cons (pv 2) (pa_cons (pe_glob (v := .ref c3) (by rfl) m3 rfl) pa_nil))) (pa_cons (pe_callB isE (by rfl) B.isi (by decide +kernel) (pa_cons (pv 2) (pa_cons (pe_glob (v := .ref c4) (by rfl) m4 rfl) pa_nil))) pa_nil))))))
      (pss_cons (ps_set (i := 3) scLWo.nd rfl (.inl rfl) (pe_op op_cat (pv 3) (pe_lst (pa_cons (pe_callB isE (by rfl) B.isi (by decide +kernel) (pa_cons (pv 2) (pa_cons (pe_glob (v := .ref c5) (by rfl) m5 rfl) pa_nil))) (pa_cons (pe_callB isE (by rfl) B.isi (by decide +kernel) (pa_cons (pv 2) (pa_cons (pe_glob (v := .ref c6) (by rfl) m6 rfl) pa_nil)))
        (pa_cons (pe_callB isE (by rfl) B.isi (by decide +kernel) (pa_cons (pv 2) (pa_cons (pe_glob (v := .ref c7) (by rfl) m7 rfl) pa_nil))) pa_nil))))))
      (pss_cons (ps_set (i := 3) scLWo.nd rfl (.inl rfl) (pe_op op_cat (pv 3) (pe_lst (pa_cons (pe_callB isE (by rfl) B.isi (by decide +kernel) (pa_cons (pv 2) (pa_cons (pe_glob (v := .ref c8) (by rfl) m8 rfl) pa_nil))) (pa_cons (pe_callB isE (by rfl) B.isi (by decide +kernel) (pa_cons (pv 2) (pa_cons (pe_glob (v := .ref c9) (by rfl) m9 rfl) pa_nil)))
        (pa_cons (pe_callB isE (by rfl) B.isi (by decide +kernel) (pa_cons (pv 2) (pa_cons (pe_glob (v := .ref c10) (by rfl) m10 rfl) pa_nil))) pa_nil))))))
      (pss_cons (ps_set (i := 3) scLWo.nd rfl (.inl rfl) (pe_op op_cat (pv 3) (pe_lst (pa_cons (pe_callB isE (by rfl) B.isi (by decide +kernel) (pa_cons (pv 2) (pa_cons (pe_glob (v := .ref c11) (by rfl) m11 rfl) pa_nil))) (pa_cons (pe_callB isE (by rfl) B.isi (by decide +kernel) (pa_cons (pv 2) (pa_cons (pe_glob (v := .ref c12) (by rfl) m12 rfl) pa_nil))) pa_nil)))))
      (pss_cons (ps_set (i := 4) scLWo.nd rfl (.inl rfl) (pe_lst (pa_cons pe_str (pa_cons pe_str (pa_cons pe_str (pa_cons pe_str (pa_cons pe_str (pa_cons pe_str (pa_cons pe_str (pa_cons pe_str (pa_cons pe_str (pa_cons pe_str pa_nil))))))))))))
      (pss_cons (ps_if (PW.pt (pw_or (pt_cmpR op_ne (pe_bm PySem.F.plainAttrs_list PySem.F.slot_list_count PySem.F.type_list_count mt_countV (pv 3) (pa_cons pe_bl pa_nil)) pe_int (nomark _)) (pw_or1 (pt_not (pt_val (pe_callB isE (by rfl) B.isi (by decide +kernel) (pa_cons (pv 2) (pa_cons (pe_bltn (v := .ty "ValueError") (by rfl) WC.val (by decide +kernel) rfl) pa_nil)))))))) (pss_one ps_never) pss_nil)
      (pss_cons (ps_set (i := 5) scLWo.nd rfl (.inl rfl) (pe_ix ix_list (pe_op op_cat (pv 4) (pe_lst (pa_cons pe_str (pa_cons pe_str pa_nil)))) (pe_bm PySem.F.plainAttrs_list PySem.F.slot_list_index PySem.F.type_list_index mt_index (pv 3) (pa_cons pe_bl pa_nil)) (fun _ _ => rfl)))
      (pss_cons (ps_if (pt_cmpR op_eq (pv 5) pe_str (nomark _)) (pss_one (ps_ret (pe_tup (pa_cons (pv 5) (pa_cons (pe_tup (pa_cons (pe_xf XF WC.noA hz hf (pv 2)) (pa_cons (pe_xf XF WC.noN hz hf (pv 2)) pa_nil))) pa_nil))))) pss_nil)
      (pss_cons (ps_if (pt_cmpR op_eq (pv 5) pe_str (nomark _)) (pss_one (ps_ret (pe_tup (pa_cons (pv 5) (pa_cons (pe_tup (pa_cons (pe_xf XF WC.noN hz hf (pv 2)) (pa_cons (pe_xf XF WC.noD hz hf (pv 2)) pa_nil))) pa_nil))))) pss_nil)
      (pss_cons (ps_if (pt_cmpR op_eq (pv 5) pe_str (nomark _)) (pss_one (ps_ret (pe_tup (pa_cons (pv 5) (pa_cons (pe_xf XF WC.noP hz hf (pv 2)) pa_nil))))) pss_nil)
      (pss_cons (ps_if (pt_cmpR op_eq (pv 5) pe_str (nomark _)) (pss_one (ps_ret (pe_tup (pa_cons (pv 5) (pa_cons (pe_xf XF WC.noR hz hf (pv 2)) pa_nil))))) pss_nil)
      (pss_one (ps_ret (pe_ifExp (pt_cmpR op_in_seq (pv 5) (pe_tup (pa_cons pe_str (pa_cons pe_str pa_nil))) rfl) (pe_tup (pa_cons (pv 5) (pa_cons (pe_xf XF WC.noN hz hf (pv 2)) pa_nil))) (pe_tup (pa_cons (pv 5) (pa_cons pe_non pa_nil)))))))))))))))), ?_⟩
  intro R D σ H1 ec hl ha hT q
  obtain ⟨x0, x1, x2, x3, x4, x5, rfl⟩ : ∃ x0 x1 x2 x3 x4 x5, σ = [x0, x1, x2, x3, x4, x5] := by
    rcases σ with _ | ⟨x0, _ | ⟨x1, _ | ⟨x2, _ | ⟨x3, _ | ⟨x4, _ | ⟨x5, _ | ⟨x6, r⟩⟩⟩⟩⟩⟩⟩ <;> simp at hl
    exact ⟨_, _, _, _, _, _, rfl⟩
  show tSeq _ _ _ [x0, x1, some (.ref a), x3, x4, x5] H1
  have fr : ∀ {Hx Hy : Hp} {x y : Addr} {o u : HO}, Hy = upd Hx x o → Hx x = none → Hx y = some u → Hy y = some u := fun e n h => by
    rw [e, upd_ne (ne_of_none h n)]
    exact h
  have hj : toldJ j = true := by
    rcases hT with ⟨rfl, _⟩ | ⟨e, _⟩ | ⟨rfl, _⟩ | ⟨rfl, _⟩ | ⟨rfl, _⟩ | ⟨rfl | rfl, _⟩
    case inr.inl => exact decide_eq_true (by have := plain_cases e; omega)
    all_goals exact decide_eq_true (by decide)
  have hH : Held H1 d := by
    rcases hT with ⟨_, dd, p, e1, e2, _⟩ | ⟨_, e, _⟩ | ⟨_, dd, p, n, e1, e2, _⟩ | ⟨_, dd, p, n, e1, e2, _⟩ | ⟨_, dd, n, e1, e2, _⟩ | ⟨_, dd, n, e1, e2, _⟩
    case inr.inl => exact e
    all_goals exact .inr ⟨dd, _, e1, e2⟩
  obtain ⟨fall, fcnt, fat, fno, fnm⟩ := told_facts hj
  refine ⟨_, rfl, _, _, _, rfl, .own _, ec, hH, k1, _, rfl, _, _, _, rfl, .own _, ec, hH, k2, _, rfl, _, _, _, rfl, .own _, ec, hH, k3, _, rfl, _, _, _, rfl, .own _, ec, hH, k4, ?_⟩
  refine ⟨(by show 4 ≤ sizeLine; decide), fun p1 n1 => ?_⟩
  obtain ⟨H2, e2⟩ : ∃ H2, H2 = upd H1 p1 (.lst [.bl (decide (0 = j)), .bl (decide (1 = j)), .bl (decide (2 = j)), .bl (decide (3 = j))]) := ⟨_, rfl⟩
  have g2 : H2 p1 = some (.lst [.bl (decide (0 = j)), .bl (decide (1 = j)), .bl (decide (2 = j)), .bl (decide (3 = j))]) := by rw [e2]; exact upd_same
  have S2 : Same H1 H2 := by rw [e2]; exact same_new n1 _
  have h2 := hH.same S2
  rw [← e2]
  clear e2
  refine ⟨_, rfl, _, rfl, _, _, _, rfl, .own _, ec, h2, k5, _, rfl, _, _, _, rfl, .own _, ec, h2, k6, _, rfl, _, _, _, rfl, .own _, ec, h2, k7, ?_⟩
  refine ⟨(by show 3 ≤ sizeLine; decide), fun p2 np2 => ?_⟩
  refine ⟨_, _, _, _, rfl, rfl, fr rfl np2 g2, upd_same, (by show 4 + 3 ≤ sizeLine; decide), fun p3 np3 => ?_⟩
  obtain ⟨H3, e3⟩ : ∃ H3, H3 = upd (upd H2 p2 (.lst [.bl (decide (4 = j)), .bl (decide (5 = j)), .bl (decide (6 = j))])) p3 (.lst ([.bl (decide (0 = j)), .bl (decide (1 = j)), .bl (decide (2 = j)), .bl (decide (3 = j))] ++ [.bl (decide (4 = j)), .bl (decide (5 = j)), .bl (decide (6 = j))])) := ⟨_, rfl⟩
  have g3 : H3 p3 = some (.lst [.bl (decide (0 = j)), .bl (decide (1 = j)), .bl (decide (2 = j)), .bl (decide (3 = j)), .bl (decide (4 = j)), .bl (decide (5 = j)), .bl (decide (6 = j))]) := by rw [e3]; exact upd_same
  have S3 : Same H1 H3 := by rw [e3]; exact (S2.trans (same_new np2 _)).trans (same_new np3 _)
  have h3 := hH.same S3
  rw [← e3]
  clear e3
  refine ⟨_, rfl, _, rfl, _, _, _, rfl, .own _, ec, h3, k8, _, rfl, _, _, _, rfl, .own _, ec, h3, k9, _, rfl, _, _, _, rfl, .own _, ec, h3, k10, ?_⟩
  refine ⟨(by show 3 ≤ sizeLine; decide), fun p4 np4 => ?_⟩
  refine ⟨_, _, _, _, rfl, rfl, fr rfl np4 g3, upd_same, (by show 7 + 3 ≤ sizeLine; decide), fun p5 np5 => ?_⟩
  obtain ⟨H4, e4⟩ : ∃ H4, H4 = upd (upd H3 p4 (.lst [.bl (decide (7 = j)), .bl (decide (8 = j)), .bl (decide (9 = j))])) p5 (.lst ([.bl (decide (0 = j)), .bl (decide (1 = j)), .bl (decide (2 = j)), .bl (decide (3 = j)), .bl (decide (4 = j)), .bl (decide (5 = j)), .bl (decide (6 = j))] ++ [.bl (decide (7 = j)), .bl (decide (8 = j)), .bl (decide (9 = j))])) := ⟨_, rfl⟩
  have g4 : H4 p5 = some (.lst [.bl (decide (0 = j)), .bl (decide (1 = j)), .bl (decide (2 = j)), .bl (decide (3 = j)), .bl (decide (4 = j)), .bl (decide (5 = j)), .bl (decide (6 = j)), .bl (decide (7 = j)), .bl (decide (8 = j)), .bl (decide (9 = j))]) := by rw [e4]; exact upd_same
  have S4 : Same H1 H4 := by rw [e4]; exact (S3.trans (same_new np4 _)).trans (same_new np5 _)
  have h4 := hH.same S4
  rw [← e4]
  clear e4
  refine ⟨_, rfl, _, rfl, _, _, _, rfl, .own _, ec, h4, k11, _, rfl, _, _, _, rfl, .own _, ec, h4, k12, ?_⟩
  refine ⟨(by show 2 ≤ sizeLine; decide), fun p6 np6 => ?_⟩
  refine ⟨_, _, _, _, rfl, rfl, fr rfl np6 g4, upd_same, (by show 10 + 2 ≤ sizeLine; decide), fun p7 np7 => ?_⟩
  obtain ⟨H5, e5⟩ : ∃ H5, H5 = upd (upd H4 p6 (.lst [.bl (decide (10 = j)), .bl (decide (11 = j))])) p7 (.lst ([.bl (decide (0 = j)), .bl (decide (1 = j)), .bl (decide (2 = j)), .bl (decide (3 = j)), .bl (decide (4 = j)), .bl (decide (5 = j)), .bl (decide (6 = j)), .bl (decide (7 = j)), .bl (decide (8 = j)), .bl (decide (9 = j))] ++ [.bl (decide (10 = j)), .bl (decide (11 = j))])) := ⟨_, rfl⟩
  have g5 : H5 p7 = some (.lst (bsJ j)) := by rw [e5]; exact upd_same
  have S5 : Same H1 H5 := by rw [e5]; exact (S4.trans (same_new np6 _)).trans (same_new np7 _)
  have h5 := hH.same S5
  rw [← e5]
  clear e5
  refine ⟨(by show 10 ≤ sizeLine; decide), fun p8 n8 => ?_⟩
  obtain ⟨H6, e6⟩ : ∃ H6, H6 = upd H5 p8 (.lst [.str "book", .str "word", .str "sounds", .str "count", .str "unsaid", .str "letter", .str "exception", .str "others", .str "samples", .str "deed"]) := ⟨_, rfl⟩
  have g6 : H6 p8 = some (.lst [.str "book", .str "word", .str "sounds", .str "count", .str "unsaid", .str "letter", .str "exception", .str "others", .str "samples", .str "deed"]) := by rw [e6]; exact upd_same
  have S6 : Same H1 H6 := by rw [e6]; exact S5.trans (same_new n8 _)
  have g6' := fr e6 n8 g5
  have h6 := hH.same S6
  rw [← e6]
  clear e6
  refine ⟨_, rfl, .inl ⟨rfl, _, .inl (.inl g6')⟩, p7, bsJ j, _, rfl, rfl, .inl (.inl g6'), rfl, fall, ?_⟩
  rw [fcnt]
  refine ⟨rfl, _, rfl, iteF ?_⟩
  refine ⟨_, rfl, _, _, _, rfl, .ty _, ec, h6, WC.kv, true, rfl, iteF ?_⟩
  refine ⟨_, rfl, (by show 2 ≤ sizeLine; decide), fun p9 n9 => ?_⟩
  refine ⟨_, _, _, _, rfl, rfl, fr rfl n9 g6, upd_same, (by show 10 + 2 ≤ sizeLine; decide), fun p10 n10 => ?_⟩
  have S69 := (same_new n9 (.lst [.str "halted", .str "text"])).trans (same_new n10 (.lst ([.str "book", .str "word", .str "sounds", .str "count", .str "unsaid", .str "letter", .str "exception", .str "others", .str "samples", .str "deed"] ++ [.str "halted", .str "text"])))
  have S9 := S6.trans S69
  have g9 := S69 _ _ g6'
  refine ⟨_, rfl, .inl ⟨rfl, _, .inl (.inl g9)⟩, p7, bsJ j, _, j, .bl true, rfl, rfl, .inl (.inl g9), rfl, fall, fat, rfl, fno, ?_⟩
  refine ⟨p10, _, _, .str (nmJ j), rfl, rfl, .inl (.inl upd_same), fnm, ?_⟩
  have ne : ∀ {z : Str}, nmJ j ≠ z → decide (V.str (nmJ j) = V.str z) = false := fun h => decide_eq_false fun e => h (V.str.inj e)
  rcases hT with ⟨rfl, dd, p, e1, e2, rfl⟩ | ⟨hp, hHd, rfl⟩ | ⟨rfl, dd, p, n, e1, e2, rfl⟩ | ⟨rfl, dd, n, m, e1, e2, rfl⟩ | ⟨rfl, dd, n, e1, e2, rfl⟩ | ⟨hj, dd, n, e1, e2, rfl⟩
  · refine ⟨_, rfl, rfl, _, rfl, iteF ?_⟩
    refine ⟨_, rfl, rfl, _, rfl, iteF ?_⟩
    refine ⟨_, rfl, rfl, _, rfl, iteT ?_⟩
    have h9 := S9 _ _ e2
    refine ⟨_, rfl, _, rfl, rfl, ec, dd, _, _, e1, h9, by rfl, ?_⟩
    refine ⟨(by show 2 ≤ sizeLine; decide), fun t nt => ?_⟩
    exact q t _ (S9.trans (same_new nt _)) upd_same
  · obtain ⟨f5, f6, f1, f2, f3, f4⟩ := plain_facts hp
    refine ⟨_, rfl, rfl, _, rfl, ?_⟩
    rw [ne f5]
    refine iteF ?_
    refine ⟨_, rfl, rfl, _, rfl, ?_⟩
    rw [ne f6]
    refine iteF ?_
    refine ⟨_, rfl, rfl, _, rfl, ?_⟩
    rw [ne f1]
    refine iteF ?_
    refine ⟨_, rfl, rfl, _, rfl, ?_⟩
    rw [ne f2]
    refine iteF ?_
    refine ⟨_, rfl, (by show 2 ≤ sizeLine; decide), fun p11 n11 => ?_⟩
    have S11 := S9.trans (same_new n11 (.tup [.str "samples", .str "deed"]))
    refine ⟨p11, _, rfl, .inr (.inl (.inl upd_same)), rfl, by rfl, _, rfl, ?_⟩
    have hin : inV (V.str (nmJ j)) [.str "samples", .str "deed"] = false := by
      unfold inV
      simp only [List.any_cons, List.any_nil, Bool.or_false, eqV]
      rw [beq_eq_false_iff_ne.mpr (Ne.symm f3), beq_eq_false_iff_ne.mpr (Ne.symm f4)]
      rfl
    simp only [hin, Bool.false_eq_true, if_false]
    refine ⟨_, rfl, (by show 2 ≤ sizeLine; decide), fun t nt => ?_⟩
    exact q t _ (S11.trans (same_new nt _)) upd_same
  · refine ⟨_, rfl, rfl, _, rfl, iteT ?_⟩
    have h9 := S9 _ _ e2
    refine ⟨_, rfl, _, rfl, rfl, ec, dd, _, _, e1, h9, by rfl, _, rfl, rfl, ec, dd, _, _, e1, h9, by rfl, ?_⟩
    refine ⟨(by show 2 ≤ sizeLine; decide), fun u nu => ⟨(by show 2 ≤ sizeLine; decide), fun t nt => ?_⟩⟩
    have su := same_new nu (.tup [.int p, .int n])
    have st := same_new nt (.tup [.str (nmJ 0), .ref u])
    exact q t _ (S9.trans (su.trans st)) ⟨u, st _ _ upd_same, upd_same⟩
  · refine ⟨_, rfl, rfl, _, rfl, iteF ?_⟩
    refine ⟨_, rfl, rfl, _, rfl, iteT ?_⟩
    have h9 := S9 _ _ e2
    refine ⟨_, rfl, _, rfl, rfl, ec, dd, _, _, e1, h9, by rfl, _, rfl, rfl, ec, dd, _, _, e1, h9, by rfl, ?_⟩
    refine ⟨(by show 2 ≤ sizeLine; decide), fun u nu => ⟨(by show 2 ≤ sizeLine; decide), fun t nt => ?_⟩⟩
    have su := same_new nu (.tup [.int n, .int m])
    have st := same_new nt (.tup [.str (nmJ 10), .ref u])
    exact q t _ (S9.trans (su.trans st)) ⟨u, st _ _ upd_same, upd_same⟩
  · refine ⟨_, rfl, rfl, _, rfl, iteF ?_⟩
    refine ⟨_, rfl, rfl, _, rfl, iteF ?_⟩
    refine ⟨_, rfl, rfl, _, rfl, iteF ?_⟩
    refine ⟨_, rfl, rfl, _, rfl, iteT ?_⟩
    have h9 := S9 _ _ e2
    refine ⟨_, rfl, _, rfl, rfl, ec, dd, _, _, e1, h9, by rfl, ?_⟩
    refine ⟨(by show 2 ≤ sizeLine; decide), fun t nt => ?_⟩
    exact q t _ (S9.trans (same_new nt _)) upd_same
  · have nj : ∀ {z : Str}, (nmJ 8 ≠ z ∧ nmJ 9 ≠ z) → nmJ j ≠ z := fun h => by
      rcases hj with rfl | rfl
      · exact h.1
      · exact h.2
    refine ⟨_, rfl, rfl, _, rfl, ?_⟩
    rw [ne (nj ⟨by decide +kernel, by decide +kernel⟩)]
    refine iteF ?_
    refine ⟨_, rfl, rfl, _, rfl, ?_⟩
    rw [ne (nj ⟨by decide +kernel, by decide +kernel⟩)]
    refine iteF ?_
    refine ⟨_, rfl, rfl, _, rfl, ?_⟩
    rw [ne (nj ⟨by decide +kernel, by decide +kernel⟩)]
    refine iteF ?_
    refine ⟨_, rfl, rfl, _, rfl, ?_⟩
    rw [ne (nj ⟨by decide +kernel, by decide +kernel⟩)]
    refine iteF ?_
    refine ⟨_, rfl, (by show 2 ≤ sizeLine; decide), fun p11 n11 => ?_⟩
    have S11 := S9.trans (same_new n11 (.tup [.str "samples", .str "deed"]))
    refine ⟨p11, _, rfl, .inr (.inl (.inl upd_same)), rfl, by rfl, _, rfl, ?_⟩
    have hin : inV (V.str (nmJ j)) [.str "samples", .str "deed"] = true := by rcases hj with rfl | rfl <;> decide +kernel
    simp only [hin, if_true]
    have h11 := S11 _ _ e2
    refine ⟨_, rfl, _, rfl, rfl, ec, dd, _, _, e1, h11, by rfl, ?_⟩
    refine ⟨(by show 2 ≤ sizeLine; decide), fun t nt => ?_⟩
    exact q t _ (S11.trans (same_new nt _)) upd_same
/-- how it was refused, told -/
def echW (K : PySem.W.Frag) (mg : Str → Option Value) (Q : VK) : XK := fun cls d H' => ∃ (CU : Addr) (j : Nat) (R : Hp → Addr → Prop), WordC K mg CU j ∧ cls = .ref CU ∧ tellsJ j d H' R ∧ ∀ (t : Addr) (H2 : Hp), Same H' H2 → R H2 t → Q (.ref t) H2
/-- _law_word: ("", what is told), or how it was refused -/
def TTw (K : PySem.W.Frag) (mg : Str → Option Value) : (XK → Hp → VK → Prop) → Hp → VK → Prop := fun tl H Q => ∀ D, H D = none → ∀ post : VK,
  (∀ v H', H' D = some (.lst []) → (∀ (t : Addr) (H2 : Hp), Stp D H' H2 → H2 t = some (.tup [.str "", v]) → Q (.ref t) H2) → post v H') → tl (echW K mg Q) (upd H D (.lst [])) post
theorem word_gives {q : Str} (B : Bn X.mg) {cS : Addr} (mS : X.mg "SayError" = some (.ref cS)) : LamX.GivesTo X nLWo "_law_word" (defScope sLWo) g cdg (defBody sLWo) "_law_work" q (TTw X.K X.mg) := by
  intro f c' s H Q tl act hc h
  refine ⟨_, pss_cons (ps_set (i := 1) scLWo.nd rfl (.inl rfl) (pe_lst pa_nil))
    (pss_cons (ps_try_as (X := cxLWo X g cdg s H) (i := 2) (c := .ref cS) (Wout := fun _ _ _ _ => False)
        (tb := fun W D σ H => ∃ Ech : XK, (∀ cls d σ' H', Ech cls d H' → σ'.length = 6 → W cls d σ' H') ∧ tDrop (tBM X.K "list" rAppend (tVar 1) (tCons (fun σZ HZ Q => σZ[0]? = some (some (.ref f)) ∧ HZ c' = some (LamX.CodeO c' q) ∧ tl Ech HZ Q) tNil)) D σ H)
        (ts := fun a' cls d D σ H1 => ∀ oe pn, Zc cls d oe → (∃ vs, oe.data = .fields vs) → ∃ t : TS, PSs ((cxLWo X g cdg s H).suite a' ((a', oe) :: pn)) suLWo t ∧ t D σ H1)
        rfl rfl scLWo.nd rfl rfl ⟨by rfl, by decide, .inl mS⟩ LamX.takes0
        (fun W pn xe tk _ => ?_)
        (fun a oe cls d pn hz hf => ?_))
    (pss_one (ps_ret (pe_tup (pa_cons pe_str (pa_cons (pe_ix ix_list (pv 1) pe_int (fun _ _ => rfl)) pa_nil)))))), ?_⟩
  · refine ⟨fun pins s' σ H' D I h' => ?_⟩
    obtain ⟨Ech, hW, h1⟩ := h'
    have tk6 : Takes ((cxLWo X g cdg s H).tr pn xe) (fun cls d σ H => σ.length = 6 → W cls d σ H) := takes_len rfl tk
    exact (pss_one (ps_expr (pe_bm PySem.F.plainAttrs_list PySem.F.slot_list_append PySem.F.type_list_append mt_append (pv 1) (pa_cons (act (fun cls d σ H => σ.length = 6 → W cls d σ H) pn xe Ech _ _ tk6 hW) pa_nil)))).run pins s' σ H' D I h1
  · refine ⟨fun pins s' σ H' D I h' => ?_⟩
    obtain ⟨t, ht, q1⟩ := h' oe pn hz hf
    exact ht.run pins s' σ H' D I q1
  · refine ⟨(by show 0 ≤ sizeLine; decide), fun D hD => ?_⟩
    refine ⟨echW X.K X.mg Q, fun cls d σ' H' he hl => ?_, _, rfl, .inl ⟨rfl, _, .inl (.inl upd_same)⟩, rfl, by rw [upd_ne (ne_of_none hc hD)]; exact hc, h D hD _ fun v H' hv k => ?_⟩
    · obtain ⟨CU, j, xs, WC, rfl, hT, k⟩ := he
      obtain ⟨c2, e2, xS⟩ := WC.say
      rw [mS] at e2
      cases e2
      refine ⟨true, xS, fun _ a ha oe pn hz hf => ?_, fun z => Bool.noConfusion z⟩
      obtain ⟨t, ht, q1⟩ := word_suite (g := g) (cdg := cdg) (s := s) (H := H) B WC a oe _ _ pn hz hf
      exact ⟨t, ht, q1 xs _ σ' H' rfl hl ha hT k⟩
    · refine ⟨D, _, _, rfl, rfl, hv, (by show 0 < sizeLine; decide), ?_⟩
      refine ⟨_, rfl, D, _, _, v, rfl, rfl, .inl (.inl upd_same), rfl, ?_⟩
      refine ⟨(by show 2 ≤ sizeLine; decide), fun t nt => ?_⟩
      exact k t _ ((stp_at _).trans (.of (same_new nt _))) upd_same
end
end Say
namespace Say
open PySem PySem.Spec PyProof.Rows L2
/-! ### what a lambda's making leaves -/
theorem KT.extN {H H' : Hp} (e : LamX.ExtN H H') : KT H H' := KT.by fun t u h hu => e t _ h (fun ps z => by rcases hu with ⟨_, rfl⟩ | ⟨_, _, rfl⟩ <;> cases z)
theorem RowAt.extN {K : PySem.W.Frag} {H H' : Hp} {r a : Addr} {ns : List Int} (R : RowAt K H r a ns) (e : LamX.ExtN H H') : RowAt K H' r a ns := by
  obtain ⟨⟨i, c, m, q, b⟩, sc, le⟩ := R
  refine ⟨⟨i, c, m, e _ _ q (fun ps z => by cases z), b⟩, ?_, le⟩
  rcases sc with (sc | ⟨o, sc⟩) | sc
  · exact .inl (.inl (e _ _ sc (fun ps z => by cases z)))
  · exact .inl (.inr ⟨o, e _ _ sc (fun ps z => by cases z)⟩)
  · exact .inr sc
theorem tabs_stp {Tt : List (Addr × Str)} {H H' : Hp} {r a : Addr} (t : LamX.Tabs Tt H) (w : RowIn H r a) (e : Stp r H H') : LamX.Tabs Tt H' := fun p hp => by
  obtain ⟨i, c, m, q, _⟩ := w
  obtain ⟨ps, h1, h2, h3⟩ := t p hp
  refine ⟨ps, e _ _ h1 (ne_of h1 q (by intro z; cases z)), h2, fun pos cv hc => ?_⟩
  obtain ⟨c', e1, e2⟩ := h3 pos cv hc
  exact ⟨c', e1, e _ _ e2 (ne_of e2 q (by intro z; unfold LamX.CodeO at z; cases z))⟩
theorem same_fresh {H H' : Hp} {D : Addr} {o : HO} (e : Same H H') (h : H D = none) : Same H (upd H' D o) := fun b u q => by
  rw [upd_ne (ne_of_none q h)]
  exact e b u q
theorem same_stp {H H' H2 : Hp} {D : Addr} (e : Same H H') (h : H D = none) (s : Stp D H' H2) : Same H H2 := fun b u q => s b u (e b u q) (ne_of_none q h)
end Say
namespace Say
open PySem PySem.Spec PyProof.Rows L2
section
variable {P : Program} {w : World} {K : PySem.W.Frag} {mg : Str → Option Value} {base : Heap}
theorem ty_list {H : Hp} {a : Addr} {xs : List V} (h : SqL K H a xs) : TyX K H (.ref a) (.type "list") := by
  rcases h with (h | ⟨o, h⟩) | ⟨o, its, n, h, hc, _⟩
  · exact .base (.lst h)
  · exact .base (.frz h)
  · exact .kList h hc
theorem ty_tup {H : Hp} {a : Addr} {xs : List V} (h : SqT K H a xs) : TyX K H (.ref a) (.type "tuple") := by
  rcases h with (h | ⟨o, h⟩) | ⟨o, its, n, h, hc, _⟩
  · exact .base (.tup h)
  · exact .fTuple h
  · exact .kTuple h hc
abbrev sAl : Stmt := topS 62
abbrev psAl : List Str := ["_law_found", "_law_due"]
theorem scAl : FnScope ["_law_found", "_law_due", "_law_same_kind", "_law_k"] ["_law_found", "_law_due"] (defScope sAl) := ⟨rfl, rfl, rfl, by decide +kernel, rfl, by decide +kernel, by decide +kernel⟩
/-- two values of the same data, not too deep -/
def spAl (K : PySem.W.Frag) (n : Nat) : Sp := fun vs H Q _ => ∃ (x y : V) (d : PyData), vs = [x, y] ∧ Dp K H x d ∧ Dp K H y d ∧ Few d ∧ d.depth < n ∧ ∀ H', Same H H' → Q (.bl true) H'
theorem kit2 {t a b : String} {r : Bool} (h : (match kitB t a, kitB t b with | some true, _ => some true | some false, some x => some x | _, _ => none) = some r) (h2 : kitB t b ≠ none) : PySem.W.kitAny K (.type t) [.type a, .type b] = some r := by
  cases ha : kitB t a with
  | none => rw [ha] at h; cases h
  | some x =>
    rw [ha] at h
    cases x with
    | true =>
      have h : some true = some r := h
      cases h
      exact kitAny_cons (kit_ty ha) (fun z => by cases z) fun _ => rfl
    | false =>
      cases hb : kitB t b with
      | none => exact absurd hb h2
      | some y =>
        rw [hb] at h
        have h : some y = some r := h
        cases h
        refine kitAny_cons (kit_ty ha) (fun _ => ?_) fun z => by cases z
        refine kitAny_cons (kit_ty hb) (fun z => ?_) fun z => z
        rw [z]
        exact kitAny_nil
def tTL : TE := tTup (tCons (tC (.ty "tuple")) (tCons (tC (.ty "list")) tNil))
theorem ok_al {f : Addr} {fd : FuncData} {n : Nat} (F : Fun K "_law_alike" "_law_alike" sAl f fd) (G : FnOk P w K mg base CX0 n f fd psAl (spAl K n)) (bG : Binds K fd psAl []) (mG : mg "_law_alike" = some (.ref f)) (B : Bn mg) :
    FnOk P w K mg base CX0 (n + 1) f fd psAl (spAl K (n + 1)) := by
  refine F.ok scAl (fun vs H Q E h => ?_) (fun cdv A outer s H vs Q E hr h => ?_)
  · obtain ⟨x, y, d, rfl, _⟩ := h
    rfl
  · obtain ⟨x, y, d, rfl, hx, hy, hF, hd, q⟩ := h
    refine ⟨_, pss_cons (ps_if (pt_val (pe_callB call_isiT (by rfl) B.isi (by decide +kernel) (pa_cons (pv 1) (pa_cons (pe_tup (pa_cons (pe_bltn (v := .ty "tuple") rfl B.tup (by decide +kernel) rfl) (pa_cons (pe_bltn (v := .ty "list") rfl B.lst (by decide +kernel) rfl) pa_nil))) pa_nil))))
        (pss_cons (ps_if (PW.pt (pw_or (pt_cmpR op_ne (pe_callB call_isi (by rfl) B.isi (by decide +kernel) (pa_cons (pv 0) (pa_cons (pe_bltn (v := .ty "tuple") rfl B.tup (by decide +kernel) rfl) pa_nil))) (pe_callB call_isi (by rfl) B.isi (by decide +kernel) (pa_cons (pv 1) (pa_cons (pe_bltn (v := .ty "tuple") rfl B.tup (by decide +kernel) rfl) pa_nil))) (nomark _))
            (pw_or1 (pt_not (pt_val (pe_callB call_isiT (by rfl) B.isi (by decide +kernel) (pa_cons (pv 0) (pa_cons (pe_tup (pa_cons (pe_bltn (v := .ty "tuple") rfl B.tup (by decide +kernel) rfl) (pa_cons (pe_bltn (v := .ty "list") rfl B.lst (by decide +kernel) rfl) pa_nil))) pa_nil)))))))) (pss_one (ps_ret pe_bl)) pss_nil)
        (pss_cons (ps_if (pt_cmpR op_ne (pe_callB call_len (by rfl) B.len PySem.boot_len (pa_cons (pv 0) pa_nil)) (pe_callB call_len (by rfl) B.len PySem.boot_len (pa_cons (pv 1) pa_nil)) (nomark _)) (pss_one (ps_ret pe_bl)) pss_nil)
        (pss_one (ps_ret (pe_cmpR (op_eqD hr.units) (pe_lc (own := [("_law_k", 3)]) (g := gName 3) (te := tVar 3) (tt := tNot (tB (tCall (spAl K n) [] E0 (tCons (tOp (rIx K) (tVar 0) (tVar 3)) (tCons (tOp (rIx K) (tVar 1) (tVar 3)) tNil))))) rfl scAl.nd
            (pi_range1 rfl B.rng (pa_cons (pe_callB call_len (by rfl) B.len PySem.boot_len (pa_cons (pv 1) pa_nil)) pa_nil))
            (blkOk_by (N := ["_law_found", "_law_due", "_law_same_kind", "_law_k"]) (sc := defScope sAl) (by decide +kernel)) (fun _ _ _ _ _ => pg_name (i := 3) scAl.nd rfl (.inl rfl))
            (fun _ _ _ _ _ => pts_one (pt_not (pt_val (pe_call G hr (by rfl) mG F.kp bG .nil pass0 (pa_cons (pe_ix ix_seq (pv 0) (pv 3) (fun _ _ => rfl)) (pa_cons (pe_ix ix_seq (pv 1) (pv 3) (fun _ _ => rfl)) pa_nil)))))) (fun _ _ _ _ _ => pv 3)) (pe_lst pa_nil) (nomark _)))))) pss_nil)
      (pss_cons (ps_if (PW.pt (pw_or (pt_cmpR op_isN (pv 1) pe_non (nomark _)) (pw_or1 (pt_cmpR op_isN (pv 0) pe_non (nomark _))))) (pss_one (ps_ret (pe_and (pe_cmpR op_isN (pv 1) pe_non (nomark _)) (pe_one (pe_cmpR op_isN (pv 0) pe_non (nomark _)))))) pss_nil)
      (pss_cons (ps_set (i := 2) scAl.nd rfl (.inl rfl) (pe_cmpR op_eq (pe_callB call_isi (by rfl) B.isi (by decide +kernel) (pa_cons (pv 1) (pa_cons (pe_bltn (v := .ty "str") rfl B.str (by decide +kernel) rfl) pa_nil))) (pe_callB call_isi (by rfl) B.isi (by decide +kernel) (pa_cons (pv 0) (pa_cons (pe_bltn (v := .ty "str") rfl B.str (by decide +kernel) rfl) pa_nil))) (nomark _)))
      (pss_one (ps_ret (pe_and (pv 2) (pe_and (pe_cmpR op_eq (pe_callB call_isi (by rfl) B.isi (by decide +kernel) (pa_cons (pv 1) (pa_cons (pe_bltn (v := .ty "bool") rfl B.bool (by decide +kernel) rfl) pa_nil))) (pe_callB call_isi (by rfl) B.isi (by decide +kernel) (pa_cons (pv 0) (pa_cons (pe_bltn (v := .ty "bool") rfl B.bool (by decide +kernel) rfl) pa_nil))) (nomark _))
        (pe_one (pe_cmpR op_eq (pv 0) (pv 1) (nomark _))))))))), ?_⟩
    have clsTL : Paired ClsV [.ty "tuple", .ty "list"] [.type "tuple", .type "list"] := .cons (.ty _) (.cons (.ty _) .nil)
    cases d with
    | none =>
      cases hx
      cases hy
      refine ⟨_, rfl, (by show 2 ≤ sizeLine; decide), fun N hN => ?_⟩
      have sN := same_new hN (.tup [.ty "tuple", .ty "list"])
      refine ⟨_, N, _, .type "NoneType", _, false, rfl, upd_same, clsTL, .base (.non), kit2 (by decide +kernel) (by decide +kernel), false, rfl, iteF ?_⟩
      refine ⟨_, rfl, rfl, _, rfl, iteT ?_⟩
      refine ⟨_, rfl, rfl, _, rfl, iteT ?_⟩
      exact ⟨_, rfl, rfl, q _ sN⟩
    | bool v =>
      cases hx
      cases hy
      refine ⟨_, rfl, (by show 2 ≤ sizeLine; decide), fun N hN => ?_⟩
      have sN := same_new hN (.tup [.ty "tuple", .ty "list"])
      refine ⟨_, N, _, .type "bool", _, false, rfl, upd_same, clsTL, .base (.bl _), kit2 (by decide +kernel) (by decide +kernel), false, rfl, iteF ?_⟩
      have nn : decide (V.bl v = V.non) = false := decide_eq_false (fun z => by cases z)
      refine ⟨_, rfl, rfl, _, rfl, ?_⟩
      rw [nn]
      refine iteF ?_
      refine ⟨_, rfl, rfl, _, rfl, ?_⟩
      rw [nn]
      refine iteF ?_
      refine ⟨_, rfl, _, _, .type "bool", _, false, rfl, ClsV.ty _, .base (.bl _), kit_ty (by decide +kernel), _, rfl, _, _, .type "bool", _, false, rfl, ClsV.ty _, .base (.bl _), kit_ty (by decide +kernel), rfl, ?_⟩
      refine ⟨_, rfl, true, rfl, iteT ?_⟩
      refine ⟨_, rfl, _, _, .type "bool", _, true, rfl, ClsV.ty _, .base (.bl _), kit_ty (by decide +kernel), _, rfl, _, _, .type "bool", _, true, rfl, ClsV.ty _, .base (.bl _), kit_ty (by decide +kernel), rfl, true, rfl, iteT ?_⟩
      refine ⟨_, rfl, _, rfl, rfl, ?_⟩
      rw [decide_eq_true rfl]
      exact q _ sN
    | int v =>
      cases hx
      cases hy
      refine ⟨_, rfl, (by show 2 ≤ sizeLine; decide), fun N hN => ?_⟩
      have sN := same_new hN (.tup [.ty "tuple", .ty "list"])
      refine ⟨_, N, _, .type "int", _, false, rfl, upd_same, clsTL, .base (.int _), kit2 (by decide +kernel) (by decide +kernel), false, rfl, iteF ?_⟩
      have nn : decide (V.int v = V.non) = false := decide_eq_false (fun z => by cases z)
      refine ⟨_, rfl, rfl, _, rfl, ?_⟩
      rw [nn]
      refine iteF ?_
      refine ⟨_, rfl, rfl, _, rfl, ?_⟩
      rw [nn]
      refine iteF ?_
      refine ⟨_, rfl, _, _, .type "int", _, false, rfl, ClsV.ty _, .base (.int _), kit_ty (by decide +kernel), _, rfl, _, _, .type "int", _, false, rfl, ClsV.ty _, .base (.int _), kit_ty (by decide +kernel), rfl, ?_⟩
      refine ⟨_, rfl, true, rfl, iteT ?_⟩
      refine ⟨_, rfl, _, _, .type "int", _, false, rfl, ClsV.ty _, .base (.int _), kit_ty (by decide +kernel), _, rfl, _, _, .type "int", _, false, rfl, ClsV.ty _, .base (.int _), kit_ty (by decide +kernel), rfl, true, rfl, iteT ?_⟩
      refine ⟨_, rfl, _, rfl, rfl, ?_⟩
      rw [decide_eq_true rfl]
      exact q _ sN
    | str v =>
      cases hx
      cases hy
      refine ⟨_, rfl, (by show 2 ≤ sizeLine; decide), fun N hN => ?_⟩
      have sN := same_new hN (.tup [.ty "tuple", .ty "list"])
      refine ⟨_, N, _, .type "str", _, false, rfl, upd_same, clsTL, .base (.str _), kit2 (by decide +kernel) (by decide +kernel), false, rfl, iteF ?_⟩
      have nn : decide (V.str v = V.non) = false := decide_eq_false (fun z => by cases z)
      refine ⟨_, rfl, rfl, _, rfl, ?_⟩
      rw [nn]
      refine iteF ?_
      refine ⟨_, rfl, rfl, _, rfl, ?_⟩
      rw [nn]
      refine iteF ?_
      refine ⟨_, rfl, _, _, .type "str", _, true, rfl, ClsV.ty _, .base (.str _), kit_ty (by decide +kernel), _, rfl, _, _, .type "str", _, true, rfl, ClsV.ty _, .base (.str _), kit_ty (by decide +kernel), rfl, ?_⟩
      refine ⟨_, rfl, true, rfl, iteT ?_⟩
      refine ⟨_, rfl, _, _, .type "str", _, false, rfl, ClsV.ty _, .base (.str _), kit_ty (by decide +kernel), _, rfl, _, _, .type "str", _, false, rfl, ClsV.ty _, .base (.str _), kit_ty (by decide +kernel), rfl, true, rfl, iteT ?_⟩
      refine ⟨_, rfl, _, rfl, rfl, ?_⟩
      rw [decide_eq_true rfl]
      exact q _ sN
    | list ds =>
      cases hx with
      | @lst xa xs _ hxs dx =>
      cases hy with
      | @lst ya ys _ hys dy =>
      cases hF with
      | lst hlen hFs =>
      have lx := dpa_len dx
      have ly := dpa_len dy
      have hd' : PyData.depthAll ds + 1 < n + 1 := hd
      refine ⟨_, rfl, (by show 2 ≤ sizeLine; decide), fun N hN => ?_⟩
      have sN := same_new hN (.tup [.ty "tuple", .ty "list"])
      refine ⟨_, N, _, .type "list", _, true, rfl, upd_same, clsTL, ty_list (Same.seq sN hys), kit2 (by decide +kernel) (by decide +kernel), true, rfl, iteT ?_⟩
      refine ⟨_, rfl, _, _, .type "list", _, false, rfl, ClsV.ty _, ty_list (Same.seq sN hxs), kit_ty (by decide +kernel), _, rfl, _, _, .type "list", _, false, rfl, ClsV.ty _, ty_list (Same.seq sN hys), kit_ty (by decide +kernel), rfl, _, rfl, iteF ?_⟩
      refine ⟨_, rfl, (by show 2 ≤ sizeLine; decide), fun M hM => ?_⟩
      have sM := sN.trans (same_new hM (.tup [.ty "tuple", .ty "list"]))
      refine ⟨_, M, _, .type "list", _, true, rfl, upd_same, clsTL, ty_list (Same.seq sM hxs), kit2 (by decide +kernel) (by decide +kernel), true, rfl, iteF ?_⟩
      refine ⟨_, rfl, _, _, rfl, .inl ⟨_, Same.seq sM hxs, rfl⟩, _, rfl, _, _, rfl, .inl ⟨_, Same.seq sM hys, rfl⟩, rfl, _, rfl, ?_⟩
      rw [lx, ly, decide_eq_true rfl]
      refine iteF ?_
      refine ⟨_, rfl, _, _, rfl, .inl ⟨_, Same.seq sM hys, rfl⟩, _, rfl, by omega, by rw [ly]; omega, fun D hD => ?_⟩
      refine lc_it (walk_range) (fun i H2 => H2 D = some (.lst []) ∧ Same H H2) ?_ (fun _ _ _ _ => trivial) ?_ ?_
      · exact ⟨upd_same, sM.trans (same_new hD _)⟩
      · rintro i v H2 H2' hi ⟨e1, e2⟩ ⟨rfl, rfl⟩
        have hi2 : i < ds.length := by rw [ly] at hi; omega
        obtain ⟨vx, gx, px⟩ := dpa_at dx (List.getElem?_eq_getElem hi2)
        obtain ⟨vy, gy, py⟩ := dpa_at dy (List.getElem?_eq_getElem hi2)
        have hm : ds[i] ∈ ds := List.getElem_mem hi2
        refine ⟨rfl, ?_⟩
        refine ⟨_, rfl, _, rfl, .inl ⟨xa, _, _, _, rfl, rfl, Same.seq e2 hxs, atI_of gx (by omega), ?_⟩⟩
        refine ⟨_, rfl, _, rfl, .inl ⟨ya, _, _, _, rfl, rfl, Same.seq e2 hys, atI_of gy (by omega), ?_⟩⟩
        refine ⟨vx, vy, ds[i], rfl, dp_same e2 px, dp_same e2 py, hFs _ hm, by have := depth_mem hm; omega, fun H3 s3 => ?_⟩
        exact ⟨true, rfl, iteF ⟨s3 _ _ e1, e2.trans s3⟩⟩
      · rintro H2 ⟨e1, e2⟩
        refine ⟨(by show 0 ≤ sizeLine; decide), fun E' hE => ?_⟩
        have sE := same_new hE (.lst [])
        refine ⟨.list [], .list [], .lst (.inl (.inl (sE _ _ e1))) .nil, .lst (.inl (.inl upd_same)) .nil, by decide +kernel, by decide +kernel, ?_⟩
        exact q _ (e2.trans sE)
    | tuple ds =>
      cases hx with
      | @tup xa xs _ hxs dx =>
      cases hy with
      | @tup ya ys _ hys dy =>
      cases hF with
      | tup hlen hFs =>
      have lx := dpa_len dx
      have ly := dpa_len dy
      have hd' : PyData.depthAll ds + 1 < n + 1 := hd
      refine ⟨_, rfl, (by show 2 ≤ sizeLine; decide), fun N hN => ?_⟩
      have sN := same_new hN (.tup [.ty "tuple", .ty "list"])
      refine ⟨_, N, _, .type "tuple", _, true, rfl, upd_same, clsTL, ty_tup (Same.seqT sN hys), kit2 (by decide +kernel) (by decide +kernel), true, rfl, iteT ?_⟩
      refine ⟨_, rfl, _, _, .type "tuple", _, true, rfl, ClsV.ty _, ty_tup (Same.seqT sN hxs), kit_ty (by decide +kernel), _, rfl, _, _, .type "tuple", _, true, rfl, ClsV.ty _, ty_tup (Same.seqT sN hys), kit_ty (by decide +kernel), rfl, _, rfl, iteF ?_⟩
      refine ⟨_, rfl, (by show 2 ≤ sizeLine; decide), fun M hM => ?_⟩
      have sM := sN.trans (same_new hM (.tup [.ty "tuple", .ty "list"]))
      refine ⟨_, M, _, .type "tuple", _, true, rfl, upd_same, clsTL, ty_tup (Same.seqT sM hxs), kit2 (by decide +kernel) (by decide +kernel), true, rfl, iteF ?_⟩
      refine ⟨_, rfl, _, _, rfl, .inr ⟨_, Same.seqT sM hxs, rfl⟩, _, rfl, _, _, rfl, .inr ⟨_, Same.seqT sM hys, rfl⟩, rfl, _, rfl, ?_⟩
      rw [lx, ly, decide_eq_true rfl]
      refine iteF ?_
      refine ⟨_, rfl, _, _, rfl, .inr ⟨_, Same.seqT sM hys, rfl⟩, _, rfl, by omega, by rw [ly]; omega, fun D hD => ?_⟩
      refine lc_it (walk_range) (fun i H2 => H2 D = some (.lst []) ∧ Same H H2) ?_ (fun _ _ _ _ => trivial) ?_ ?_
      · exact ⟨upd_same, sM.trans (same_new hD _)⟩
      · rintro i v H2 H2' hi ⟨e1, e2⟩ ⟨rfl, rfl⟩
        have hi2 : i < ds.length := by rw [ly] at hi; omega
        obtain ⟨vx, gx, px⟩ := dpa_at dx (List.getElem?_eq_getElem hi2)
        obtain ⟨vy, gy, py⟩ := dpa_at dy (List.getElem?_eq_getElem hi2)
        have hm : ds[i] ∈ ds := List.getElem_mem hi2
        refine ⟨rfl, ?_⟩
        refine ⟨_, rfl, _, rfl, .inr (.inl ⟨xa, _, _, _, rfl, rfl, Same.seqT e2 hxs, atI_of gx (by omega), ?_⟩)⟩
        refine ⟨_, rfl, _, rfl, .inr (.inl ⟨ya, _, _, _, rfl, rfl, Same.seqT e2 hys, atI_of gy (by omega), ?_⟩)⟩
        refine ⟨vx, vy, ds[i], rfl, dp_same e2 px, dp_same e2 py, hFs _ hm, by have := depth_mem hm; omega, fun H3 s3 => ?_⟩
        exact ⟨true, rfl, iteF ⟨s3 _ _ e1, e2.trans s3⟩⟩
      · rintro H2 ⟨e1, e2⟩
        refine ⟨(by show 0 ≤ sizeLine; decide), fun E' hE => ?_⟩
        have sE := same_new hE (.lst [])
        refine ⟨.list [], .list [], .lst (.inl (.inl (sE _ _ e1))) .nil, .lst (.inl (.inl upd_same)) .nil, by decide +kernel, by decide +kernel, ?_⟩
        exact q _ (e2.trans sE)
    | dict kvs => cases hF
theorem al_all {f : Addr} {fd : FuncData} (F : Fun K "_law_alike" "_law_alike" sAl f fd) (bG : Binds K fd psAl []) (mG : mg "_law_alike" = some (.ref f)) (B : Bn mg) : ∀ n : Nat, FnOk P w K mg base CX0 n f fd psAl (spAl K n)
  | 0 => by
    have no : ∀ vs H Q E, ¬ spAl K 0 vs H Q E := fun vs H Q E h => by
      obtain ⟨x, y, d, _, _, _, _, hd, _⟩ := h
      exact Nat.not_lt_zero _ hd
    exact ⟨fun vs H Q E h => absurd h (no vs H Q E), fun A outer s H args us vs Q E _ _ _ _ h => absurd h (no vs H Q E)⟩
  | n + 1 => ok_al F (al_all F bG mG B n) bG mG B
end
end Say
namespace Say
open PySem PySem.Spec PyProof.Rows L2
/-- S is not where the script stands -/
def Off (K : PySem.W.Frag) (a S : Addr) (ns : List Int) : Prop := (∀ H : Hp, SqL K H a (ns.map V.int)) ∨ a ≠ S
theorem RowAt.off {K : PySem.W.Frag} {H : Hp} {r a S : Addr} {ns : List Int} (R : RowAt K H r a ns) (h : H S = none) : Off K a S ns := by
  obtain ⟨_, sc, _⟩ := R
  rcases sc with (sc | ⟨o, sc⟩) | sc
  · exact .inr (ne_of_none sc h)
  · exact .inr (ne_of_none sc h)
  · exact .inl fun H' => .inr sc
theorem RowAt.updS {K : PySem.W.Frag} {H : Hp} {r a S : Addr} {ns : List Int} {o : HO} (R : RowAt K H r a ns) (n : r ≠ S) (of : Off K a S ns) : RowAt K (upd H S o) r a ns := by
  obtain ⟨⟨i', c', m', q', b'⟩, sc, le⟩ := R
  refine ⟨⟨i', c', m', by rw [upd_ne n]; exact q', b'⟩, ?_, le⟩
  rcases of with of | of
  · exact of _
  · rcases sc with (sc | ⟨o, sc⟩) | sc
    · exact .inl (.inl (by rw [upd_ne of]; exact sc))
    · exact .inl (.inr ⟨o, by rw [upd_ne of]; exact sc⟩)
    · exact .inr sc
end Say
namespace Say
open PySem PySem.Spec PyProof.Rows L2
theorem paired_allZ {α β : Type} {F : α → β → Prop} : ∀ {xs : List α} {ys : List β}, Paired F xs ys → ∀ x ∈ xs, ∃ y ∈ ys, F x y
  | _, _, .cons h r => fun x hx => by
    rcases List.mem_cons.mp hx with rfl | hx
    · exact ⟨_, List.mem_cons_self .., h⟩
    · obtain ⟨y, hy, hh⟩ := paired_allZ r x hx
      exact ⟨y, List.mem_cons_of_mem _ hy, hh⟩
  | _, _, .nil => fun x hx => nomatch hx
theorem few_texts : ∀ r : List (List Nat), r.length ≤ 1000 → Few (.tuple (r.map fun z => .str (T z))) := fun r h => by
  refine .tup (by rw [List.length_map]; exact h) fun d hd => ?_
  obtain ⟨z, _, rfl⟩ := List.mem_map.mp hd
  exact .str _
theorem few_parts {rr : List (List (List Nat))} (h : rr.length ≤ 1000) (hr : ∀ r ∈ rr, r.length ≤ 1000) : Few (partsD rr) := by
  refine .tup (by rw [List.length_map]; exact h) fun d hd => ?_
  obtain ⟨r, h', rfl⟩ := List.mem_map.mp hd
  exact few_texts r (hr r h')
theorem depth_le : ∀ {l : List PyData} {n : Nat}, (∀ d ∈ l, d.depth ≤ n) → PyData.depthAll l ≤ n
  | [], _, _ => Nat.zero_le _
  | d :: r, n, h => by
    have h1 := h d (List.mem_cons_self ..)
    have h2 := depth_le (l := r) fun x hx => h x (List.mem_cons_of_mem _ hx)
    show max d.depth (PyData.depthAll r) ≤ n
    omega
theorem depth_parts (rr : List (List (List Nat))) : (partsD rr).depth ≤ 2 := by
  have : PyData.depthAll (rr.map fun r => .tuple (r.map fun z => PyData.str (T z))) ≤ 1 := depth_le fun d hd => by
    obtain ⟨r, _, rfl⟩ := List.mem_map.mp hd
    have : PyData.depthAll (r.map fun z => PyData.str (T z)) ≤ 0 := depth_le fun d hd => by
      obtain ⟨z, _, rfl⟩ := List.mem_map.mp hd
      exact Nat.le_refl 0
    show PyData.depthAll _ + 1 ≤ 1
    omega
  show PyData.depthAll _ + 1 ≤ 2
  omega
theorem few_note {z : List Nat} {rows : List (List (List Nat))} (h : RowsP rows) : Few (bookN z (thingsM rows kwR) (thingsM rows kwW)) := by
  have hk : ∀ k, Few (partsD (thingsM rows k)) := fun k => by
    refine few_parts (by have := things_count h k; omega) fun r hr => ?_
    unfold thingsM at hr
    obtain ⟨r0, h0, rfl⟩ := List.mem_map.mp hr
    have := (h.r r0 (List.mem_filter.mp h0).1).2.1
    rw [List.length_map, List.length_tail]
    omega
  refine .tup (by show 3 ≤ 1000; decide) fun d hd => ?_
  simp only [List.mem_cons, List.not_mem_nil, or_false] at hd
  rcases hd with rfl | rfl | rfl
  · exact .str _
  · exact hk _
  · exact hk _
theorem depth_note (z : List Nat) (rr ee : List (List (List Nat))) : (bookN z rr ee).depth < 4 := by
  have h1 := depth_parts rr
  have h2 := depth_parts ee
  show max 0 (max (partsD rr).depth (max (partsD ee).depth 0)) + 1 < 4
  omega
def rowD (n : Int) : PyData := .tuple [.str "text", .int n]
theorem few_row (n : Int) : Few (rowD n) := .tup (by show 2 ≤ 1000; decide) fun d hd => by
  simp only [List.mem_cons, List.not_mem_nil, or_false] at hd
  rcases hd with rfl | rfl
  · exact .str _
  · exact .int _
theorem dp_row {K : PySem.W.Frag} {H : Hp} {u : Addr} {n : Int} (h : H u = some (.tup [.str "text", .int n])) : Dp K H (.ref u) (rowD n) := .tup (.inl (.inl h)) (.cons (.str _) (.cons (.int _) .nil))
/-- what is told of a text that is read -/
theorem read_at {K : PySem.W.Frag} {mg : Str → Option Value} {CT CB : Addr} {rows : List (List (List Nat))} {H7 : Hp} {Q : VK} {σ : L2.St} {i : Nat} (WT : WordC K mg CT 11) (WB : WordC K mg CB 0) (h4 : σ[i]? = some (some (.str (T (textN rows))))) (hP : RowsP rows)
    (hbad : ∀ n : Nat, badRow rows n → (∀ m, m < n → ¬ badRow rows m) → ∀ (t : Addr) (H8 : Hp), Same H7 H8 → H8 t = some (.tup [.str "text", .int n]) → Q (.ref t) H8)
    (hno : (∀ n, ¬ badRow rows n) → ∀ (t q : Addr) (p n : Int) (H8 : Hp), Same H7 H8 → H8 q = some (.tup [.int p, .int n]) → H8 t = some (.tup [.str "book", .ref q]) → Q (.ref t) H8)
    (hyes : (∀ n, ¬ badRow rows n) → ∀ (t b : Addr) (z : List Nat) (H8 : Hp), Same H7 H8 → rows[0]? = some [kwL, z] → H8 t = some (.tup [.str "", .ref b]) → NoteAt H8 b z (thingsM rows kwR) (thingsM rows kwW) → Q (.ref t) H8) :
    TTw K mg (fun E H' Q' => tCall (spRdX K CB CT) [] E (tCons (tVar i) tNil) σ H' Q') H7 Q := by
  intro D hD post hpost
  have sD := same_new hD (.lst [])
  refine ⟨_, h4, rows, rfl, hP, fun n hb hm d H' s' hd hx => ?_, fun hall => ⟨fun p n d H' s' hd hx => ?_, fun b z H' s' hz hn => ?_⟩⟩
  · exact ⟨CT, 11, _, WT, rfl, .inr (.inr (.inr (.inr (.inl ⟨rfl, d, n, rfl, hx, rfl⟩)))), fun t H8 s8 ht => hbad n hb hm t H8 (sD.trans (s'.trans s8)) ht⟩
  · exact ⟨CB, 0, _, WB, rfl, .inr (.inr (.inl ⟨rfl, d, p, n, rfl, hx, rfl⟩)), fun t H8 s8 ⟨q, hq, ht⟩ => hno hall t q p n H8 (sD.trans (s'.trans s8)) hq ht⟩
  · have hD' := s' _ _ (upd_same (H := H7) (a := D) (o := HO.lst []))
    refine hpost _ _ hD' fun t H8 s8 ht => hyes hall t b z H8 (same_stp (sD.trans s') hD s8) hz ht (hn.kt (KT.by fun c u hc hu => s8 c u hc fun e => ?_))
    rw [e, hD'] at hc
    rcases hu with ⟨_, rfl⟩ | ⟨_, _, rfl⟩ <;> cases hc
section
variable {P : Program} {w : World} {K : PySem.W.Frag} {mg : Str → Option Value} {base : Heap}
abbrev sLaw : Stmt := topS 63
abbrev nLaw : List Str := ["_law_script", "_law_row_here", "_law_turn", "_law_book_here", "_law_text_here", "_law_due", "_law_found", "_law_line"]
theorem scLaw : FnScope nLaw ["_law_script"] (defScope sLaw) := ⟨rfl, rfl, rfl, by decide +kernel, rfl, by decide +kernel, by decide +kernel⟩
def qLam : Str := (PySem.W.envX "law" (defScope sLaw) 0 0 (.ref 0) []).qual ++ "<lambda>"
def spLawT (K : PySem.W.Frag) (Pt : Addr) : Sp := fun vs H Q _ => ∃ (a : Addr) (ns : List Int), vs = [.ref a] ∧ SqL K H a (ns.map V.int) ∧ ns.length ≤ 63 ∧ H Pt = some (.tbl #[]) ∧ ∀ H', Q (.bl true) H'
theorem ok_law {f cL Pt gW fRd CB CT : Addr} {fdW fdRd : FuncData} {oc : Value} {od an : Option Addr} {osl : Array (Option Value)} {kV doc pm ct : Value}
    (lk : K.lookup f = some ⟨oc, od, .func (PySem.W.fnOf "law" "law" (defArgs sLaw) (defBody sLaw) (defScope sLaw) .none kV doc pm an (.ref cL) ct), osl⟩) (hcd : PySem.W.codeIn K (.ref cL) "law" = true)
    (TB : LamX.TabB base mg cL Pt) (B : Bn mg) (WT : WordC K mg CT 11) (WB : WordC K mg CB 0)
    (FW : Fun K "_law_word" "_law_word" sLWo gW fdW) (mW : mg "_law_word" = some (.ref gW))
    (GRd : FnOk P w K mg base (L2.CX P w) 6 fRd fdRd ["text"] (spRdX K CB CT)) (kRd : PySem.W.keepIn K (.ref fRd) = true) (bRd : Binds K fdRd ["text"] []) (mRd : mg "read" = some (.ref fRd))
    (DRo : Df P w K mg base "_law_row" ["_law_script"] 1 (spRow K)) (DBk : Df P w K mg base "_law_book" ["_law_row_here"] 5 (spLB4 K)) (DWt : Df P w K mg base "written" ["book"] 6 spWt)
    (DSp : Df P w K mg base "_law_spoilt" ["_law_row_here", "_law_rows"] 4 (spLSp K)) (DLR : Df P w K mg base "_law_read" ["_law_text_here"] 1 (spLRd K)) (DAl : Df P w K mg base "_law_alike" psAl 4 (spAl K 4)) :
    FnOk P w K mg base CX0 9 f (PySem.W.fnOf "law" "law" (defArgs sLaw) (defBody sLaw) (defScope sLaw) .none kV doc pm an (.ref cL) ct) ["_law_script"] (spLawT K Pt) := by
  obtain ⟨fRo, fdRo, GRo, kRo, bRo, mRo⟩ := DRo
  obtain ⟨fB, fdB, GB, kB, bB, mB⟩ := DBk
  obtain ⟨fWt, fdWt, GWt, kWt, bWt, mWt⟩ := DWt
  obtain ⟨fSp, fdSp, GSp, kSp, bSp, mSp⟩ := DSp
  obtain ⟨fLRd, fdLRd, GLRd, kLRd, bLRd, mLRd⟩ := DLR
  obtain ⟨fAl, fdAl, GAl, kAl, bAl, mAl⟩ := DAl
  obtain ⟨cS, mS, _⟩ := id WT.say
  obtain ⟨ocW, odW, kVW, docW, pmW, anW, cdvW, ctW, oslW, eW, lkW, hcW⟩ := FW.ex
  have kW := FW.kp
  have bW : Binds K fdW ["_law_work"] [] := FW.binds fun _ _ _ _ _ _ us hl => match us, hl with | [_], _ => rfl
  subst eW
  refine fn_of lk hcd scLaw (fun vs H Q E h => ?_) (fun A outer s H vs Q E hr h => ?_)
  · obtain ⟨a, ns, rfl, _⟩ := h
    rfl
  · obtain ⟨a, ns, rfl, hSc, hle, hPt, q⟩ := h
    suffices hh : ∃ t, PSs (cxOf CX0 P w K mg base nLaw "law" (defScope sLaw) f (.ref cL) A outer s H E).nox (defBody sLaw) t ∧ t { nx := fun _ H' => Q .non H', rt := Q } (start nLaw [.ref a]) H by
      obtain ⟨t, h1, h2⟩ := hh
      exact ⟨t, h1.nox, h2⟩
    have hr1 : Room 1 _ := hr.mono (by decide)
    have hr4 : Room 4 _ := hr.mono (by decide)
    have hr5 : Room 5 _ := hr.mono (by decide)
    have hr6 : Room 6 _ := hr.mono (by decide)
    have hr8 : Room 8 _ := hr
    refine ⟨_, pss_cons (ps_set (i := 1) scLaw.nd rfl (.inl rfl) (pe_call GRo hr1 (by rfl) mRo kRo bRo .nil pass0 (pa_cons (pv 0) pa_nil)))
      (pss_cons (ps_for PassesOwn.never rfl (pi_range1 (by rfl) B.rng (pa_cons pe_int pa_nil)) (pg_name (i := 2) scLaw.nd rfl (.inl rfl)) (pss_cons (ps_set (i := 3) scLaw.nd rfl (.inl rfl) (pe_call GB hr5 (by rfl) mB kB bB .nil pass0 (pa_cons (pv 1) pa_nil)))
        (pss_cons (ps_set (i := 4) scLaw.nd rfl (.inr rfl) (pe_call GSp hr4 (by rfl) mSp kSp bSp .nil pass0 (pa_cons (pv 1) (pa_cons (pe_lc (own := [("_law_line", 7)]) (g := gName 7) (te := tM1 rSplitX (tVar 7) (tC (.str " "))) rfl scLaw.nd (pi_list (pe_split (pe_call GWt hr6 (by rfl) mWt kWt bWt .nil pass0 (pa_cons (pv 3) pa_nil)) pe_str)) (blkOk_by (N := nLaw) (sc := defScope sLaw) (by decide +kernel)) (fun _ _ _ _ _ => pg_name (i := 7) scLaw.nd rfl (.inl rfl)) (fun _ _ _ _ _ => pts_nil) (fun _ _ _ _ _ => pe_split (pv 7) pe_str)) pa_nil))))
        (pss_cons (ps_par (i := 5) (j := 6) (by rfl) scLaw.nd rfl rfl (by decide) rfl rfl (pa_cons (pe_call GLRd hr1 (by rfl) mLRd kLRd bLRd .nil pass0 (pa_cons (pv 4) pa_nil)) (pa_cons (LamX.pe_lamcall (T := [(Pt, qLam)]) (k := 6) (t := fun E => tCall (spRdX K CB CT) [] E (tCons (tVar 4) tNil)) (by rfl) mW kW lkW hcW bW scLWo rfl (by exact .inl rfl) (word_gives B mS) TB rfl (List.mem_singleton.mpr rfl) (fun p hp _ => by rw [List.mem_singleton.mp hp]; rfl) hr8 (LamX.lamS_by (by show LamX.lamSB (defScope sLaw) _ = true; decide +kernel)) rfl (fun _ _ _ _ _ => rfl)
            (fun A' outer' s' H' E' f' c' hr' => pe_call (E := E') GRd hr' (by rfl) mRd kRd bRd .nil (passes_call (W := fun cls d _ H => E' cls d H) (takes_of rfl rfl rfl rfl) (fun _ _ _ _ h => h)) (pa_cons (pv 4) pa_nil))) pa_nil)) (by rfl))
        (pss_one (ps_if (pt_cmpR op_eq (pe_ix ix_tup (pv 5) pe_int (fun _ _ => rfl)) pe_str (nomark _)) (pss_one (ps_if (pt_not (pt_val (pe_call GAl hr4 (by rfl) mAl kAl bAl .nil pass0 (pa_cons (pv 6) (pa_cons (pv 5) pa_nil))))) (pss_one (ps_ret pe_bl)) pss_nil)) (pss_one (ps_if (PW.pt (pw_or (pt_cmpR op_notIn_seq (pe_ix ix_tup (pv 6) pe_int (fun _ _ => rfl)) (pe_tup (pa_cons pe_str (pa_cons pe_str pa_nil))) rfl) (pw_or1 (PW.pt (pw_and (pt_cmpR op_eq (pe_ix ix_tup (pv 6) pe_int (fun _ _ => rfl)) pe_str (nomark _)) (pw_and1 (pt_not (pt_val (pe_call GAl hr4 (by rfl) mAl kAl bAl .nil pass0 (pa_cons (pe_ix ix_tup (pv 6) pe_int (fun _ _ => rfl)) (pa_cons (pe_ix ix_tup (pv 5) pe_int (fun _ _ => rfl)) pa_nil))))))))))) (pss_one (ps_ret pe_bl)) pss_nil))))))))
      (pss_one (ps_ret pe_bl))), ?_⟩
    have T0 : LamX.Tabs [(Pt, qLam)] H := fun p hp => by
      rw [List.mem_singleton.mp hp]
      exact LamX.TabS.nil hPt
    refine ⟨_, rfl, a, ns, rfl, hSc, hle, fun r H1 hr0 s1 R1 => ?_⟩
    have T1 := T0.ext s1
    simp only [L2.start, List.length_cons, List.length_nil, List.map_cons, List.map_nil, List.set_cons_succ, List.set_cons_zero]
    refine ⟨5, rfl, by decide, by decide, for_it (walk_range) (fun i σ HX => (∃ v2 v3 v4 v5 v6 : Option V, σ = [some (.ref a), some (.ref r), v2, v3, v4, v5, v6, none]) ∧ RowAt K HX r a ns ∧ LamX.Tabs [(Pt, qLam)] HX) ⟨⟨_, _, _, _, _, rfl⟩, R1, T1⟩ (fun _ _ _ _ _ => trivial) ?_ ?_⟩
    · rintro i x σ H2 H2' hi ⟨⟨v2, v3, v4, v5, v6, rfl⟩, R2, T2⟩ ⟨rfl, rfl⟩
      refine ⟨_, rfl, r, a, ns, rfl, R2, fun b L rs es H3 oB _ hB s3 R3 => ?_⟩
      have T3 := tabs_stp T2 R2.in s3
      simp only [List.set_cons_succ, List.set_cons_zero]
      have hP0 := words_P oB
      have tl := hP0.text
      refine ⟨_, rfl, _, rfl, b, L, rs, es, rfl, hB, oB, fun H4 s4 => ?_⟩
      rw [text_words]
      refine ⟨⟨_, rfl⟩, _, _, rfl, rfl, (by decide +kernel), (by rw [T_len]; exact small (by omega)), fun W hW => ?_⟩
      rw [nl_eq, hP0.split]
      have sW := same_new hW (.lst ((((wordsM L rs es).map lineM).map T).map V.str))
      have hW1 : (upd H4 W (.lst ((((wordsM L rs es).map lineM).map T).map V.str))) W = some (.lst ((((wordsM L rs es).map lineM).map T).map V.str)) := upd_same
      generalize upd H4 W (.lst ((((wordsM L rs es).map lineM).map T).map V.str)) = H5 at sW hW1 ⊢
      refine ⟨W, rfl, ⟨_, .inl (.inl hW1)⟩, fun D hD => ?_⟩
      refine rows_lc hP0 hW1 hD (fun _ => rfl) (fun _ => rfl) fun H6 s6 LR => ?_
      have s36 := s4.trans (sW.trans s6)
      obtain ⟨ts, hD6, pr⟩ := LR
      have R6 := R3.stp s36
      have T6 := T3.ext s36
      have ll := rows_len oB
      refine ⟨r, a, ns, D, _, rfl, R6, hD6, fun x hx => ?_, ?_, fun rows H7 hP s7 R7 => ?_⟩
      · obtain ⟨t, ht, rfl⟩ := List.mem_map.mp hx
        obtain ⟨r0, hr0, h0⟩ := paired_allZ pr t ht
        obtain ⟨w1, w2⟩ := words_row oB r0 hr0
        exact ⟨t, r0, rfl, h0, w1, fun z hz => ⟨by have := (w2 z hz).1; omega, (w2 z hz).2⟩⟩
      · rw [List.length_map, paired_len pr]
        unfold wordsM
        rw [List.length_map]
        exact ll
      have T7 := tabs_stp T6 R6.in s7
      simp only [List.set_cons_succ, List.set_cons_zero]
      have nx : ∀ (HX : Hp) (v5 v6 : V), RowAt K HX r a ns → LamX.Tabs [(Pt, qLam)] HX → (∃ u2 u3 u4 u5 u6 : Option V, ([some (.ref a), some (.ref r), some (.int (0 + (i : Int))), some (.ref b), some (.str (T (textN rows))), some v5, some v6, none] : List (Option V)) = [some (.ref a), some (.ref r), u2, u3, u4, u5, u6, none]) ∧ RowAt K HX r a ns ∧ LamX.Tabs [(Pt, qLam)] HX := fun HX v5 v6 h1 h2 => ⟨⟨_, _, _, _, _, rfl⟩, h1, h2⟩
      refine ⟨_, rfl, rows, rfl, hP, fun n t H8 hbad hmin s8 ht => ?_, fun hall t b1 z H8 s8 hz ht hn => ?_⟩
      · -- a row that can't stand there
        have R8 := R7.stp s8
        have T8 := T7.ext s8
        refine ⟨T8, fun H9 e9 T9 => ?_⟩
        have R9 := R8.extN e9
        have ht9 := e9 _ _ ht (fun ps z => by cases z)
        refine read_at (i := 4) WT WB rfl hP (fun n2 hb2 hm2 u H10 s10 hu => ?_) (fun hall => absurd hbad (hall n)) (fun hall => absurd hbad (hall n))
        have en : n2 = n := by
          rcases Nat.lt_trichotomy n2 n with h | h | h
          · exact absurd hb2 (hmin _ h)
          · exact h
          · exact absurd hbad (hm2 _ h)
        subst en
        have ht10 := s10 _ _ ht9
        refine ⟨_, _, rfl, ?_⟩
        simp only [List.set_cons_succ, List.set_cons_zero]
        refine ⟨_, rfl, t, _, 0, .str "text", rfl, rfl, .inl (.inl ht10), atI_nat (j := 0) rfl, rfl, _, rfl, ?_⟩
        rw [decide_eq_true (show V.str "text" = V.str "text" from rfl)]
        refine iteT ?_
        refine ⟨_, rfl, _, rfl, .ref u, .ref t, rowD n2, rfl, dp_row hu, dp_row ht10, few_row _, (by show 1 < 4; decide), fun H11 s11 => ?_⟩
        refine ⟨true, rfl, iteF ?_⟩
        exact nx H11 _ _ ((R9.stp s10).stp s11) ((T9.ext s10).ext s11)
      · have R8 := R7.stp s8
        have T8 := T7.ext s8
        refine ⟨T8, fun H9 e9 T9 => ?_⟩
        have R9 := R8.extN e9
        have ht9 := e9 _ _ ht (fun ps z => by cases z)
        have hn9 : NoteAt H9 b1 z (thingsM rows kwR) (thingsM rows kwW) := hn.kt (KT.by fun c u hc hu => e9 c u hc fun ps z => by rcases hu with ⟨_, rfl⟩ | ⟨_, _, rfl⟩ <;> cases z)
        have first : ∀ (u : Addr) (H10 : Hp), Same H9 H10 → H10 t = some (.tup [.str "", .ref b1]) := fun u H10 s10 => s10 _ _ ht9
        refine read_at (i := 4) WT WB rfl hP (fun n2 hb2 _ => absurd hb2 (hall n2)) (fun _ u q2 p2 n2 H10 s10 hq hu => ?_) (fun _ u b2 z2 H10 s10 hz2 hu hn2 => ?_)
        · -- a book that can't be
          have ht10 := s10 _ _ ht9
          refine ⟨_, _, rfl, ?_⟩
          simp only [List.set_cons_succ, List.set_cons_zero]
          refine ⟨_, rfl, t, _, 0, .str "", rfl, rfl, .inl (.inl ht10), atI_nat (j := 0) rfl, rfl, _, rfl, ?_⟩
          rw [decide_eq_false (show ¬ V.str "" = V.str "text" from fun e => absurd (V.str.inj e) (by decide +kernel))]
          refine iteF ?_
          refine ⟨_, rfl, u, _, 0, .str "book", rfl, rfl, .inl (.inl hu), atI_nat (j := 0) rfl, (by show 2 ≤ sizeLine; decide), fun p hp => ?_⟩
          have sp := same_new hp (.tup [.str "", .str "book"])
          refine ⟨p, _, rfl, .inr (.inl (.inl upd_same)), rfl, rfl, _, rfl, ?_⟩
          rw [show inV (.str "book") [.str "", .str "book"] = true by decide +kernel]
          refine iteF ?_
          refine ⟨_, rfl, u, _, 0, .str "book", rfl, rfl, .inl (.inl (sp _ _ hu)), atI_nat (j := 0) rfl, rfl, _, rfl, ?_⟩
          rw [decide_eq_false (show ¬ V.str "book" = V.str "" from fun e => absurd (V.str.inj e) (by decide +kernel))]
          refine iteF (iteF ?_)
          exact nx _ _ _ ((R9.stp s10).stp sp) ((T9.ext s10).ext sp)
        · have ht10 := s10 _ _ ht9
          have ez : z2 = z := by
            rw [hz] at hz2
            exact (List.cons.inj (List.cons.inj (Option.some.inj hz2)).2).1.symm
          subst ez
          have hn10 := hn9.kt (KT.of s10)
          refine ⟨_, _, rfl, ?_⟩
          simp only [List.set_cons_succ, List.set_cons_zero]
          refine ⟨_, rfl, t, _, 0, .str "", rfl, rfl, .inl (.inl ht10), atI_nat (j := 0) rfl, rfl, _, rfl, ?_⟩
          rw [decide_eq_false (show ¬ V.str "" = V.str "text" from fun e => absurd (V.str.inj e) (by decide +kernel))]
          refine iteF ?_
          refine ⟨_, rfl, u, _, 0, .str "", rfl, rfl, .inl (.inl hu), atI_nat (j := 0) rfl, (by show 2 ≤ sizeLine; decide), fun p hp => ?_⟩
          have sp := same_new hp (.tup [.str "", .str "book"])
          refine ⟨p, _, rfl, .inr (.inl (.inl upd_same)), rfl, rfl, _, rfl, ?_⟩
          rw [show inV (.str "") [.str "", .str "book"] = true by decide +kernel]
          refine iteF ?_
          have hu' := sp _ _ hu
          have ht' := sp _ _ ht10
          refine ⟨_, rfl, u, _, 0, .str "", rfl, rfl, .inl (.inl hu'), atI_nat (j := 0) rfl, rfl, _, rfl, ?_⟩
          rw [decide_eq_true (show V.str "" = V.str "" from rfl)]
          refine iteT ?_
          refine ⟨_, rfl, u, _, 1, .ref b2, rfl, rfl, .inl (.inl hu'), atI_nat (j := 1) rfl, _, rfl, t, _, 1, .ref b1, rfl, rfl, .inl (.inl ht'), atI_nat (j := 1) rfl, ?_⟩
          refine ⟨.ref b2, .ref b1, _, rfl, (hn2.kt (.of sp)).dp, (hn10.kt (.of sp)).dp, few_note hP, depth_note _ _ _, fun H11 s11 => ?_⟩
          refine ⟨true, rfl, iteF ?_⟩
          exact nx _ _ _ (((R9.stp s10).stp sp).stp s11) (((T9.ext s10).ext sp).ext s11)
    · rintro σ HX ⟨⟨v2, v3, v4, v5, v6, rfl⟩, _, _⟩
      exact q HX
end
end Say
namespace Say
open PySem PySem.Spec PyProof.Rows L2
/-- a def as the top has left it -/
structure Std (K : PySem.W.Frag) (x : Str) (st : Stmt) (f : Addr) : Prop where
  ns : PySem.W.nsIn K mainGlobals x = some (some (.ref f))
  fn : ∃ fd, Fun K x x st f fd ∧ ∃ kV dc pm an cd ct, fd = PySem.W.fnOf x x (defArgs st) (defBody st) (defScope st) .none kV dc pm an cd ct
theorem std_mk {K : PySem.W.Frag} {x : Str} {st : Stmt} {f : Addr} {oc : Value} {od an : Option Addr} {osl : Array (Option Value)} {kV dc pm cd ct : Value} (a : PySem.W.nsIn K mainGlobals x = some (some (.ref f))) (l : K.lookup f = some ⟨oc, od, .func (PySem.W.fnOf x x (defArgs st) (defBody st) (defScope st) .none kV dc pm an cd ct), osl⟩) (c : PySem.W.codeIn K cd x = true) (k : PySem.W.keepIn K (.ref f) = true) : Std K x st f :=
  ⟨a, _, fun_mk l c k, kV, dc, pm, an, cd, ct, rfl⟩
theorem all_ok {l : PySem.W.OpenLaw} {w : World} {K : PySem.W.Frag} {h : Heap} {mg : Str → Option Value} {fa f36 f37 f32 f31 f34 f35 f33 f28 f29 f30 f27 f47 f48 f42 f45 f44 f46 f43 f50 f51 f52 f53 f54 f55 f56 f57 f58 f59 f60 f61 f62 f63 xSayError xBadBook xBadWord xBadSounds xBadCount xUnsaid xNoLetter xNoException xOtherLetters xBadSamples xBadDeed xHalted xBadText fIo0 cdIo0 ccIo0 N_o0 fIo1 cdIo1 ccIo1 N_o1 Pt cL aSz aFo aF0 aF1 aF2 aF3 : Addr} {t_small t_caps t_edge t_mrul t_lexc t_lrs t_lso t_imost_exceptions t_ino_book t_iletters t_irules t_iexceptions : Tok} {tfIo0 : Tok} {nmo0 qo0 flIo0 : Str} {bso0 subo0 : List Value} {sno0 : List Str} {abo0 : Bool} {colo0 : Option Bool} {ddo0 odIo0 anIo0 cldIo0 cddIo0 : Option Addr} {m0o0 m1o0 m2o0 m3o0 m5o0 : Option Value} {oIo0 dcIo0 pmIo0 ctIo0 clIo0 cclIo0 : Value} {slIo0 cslIo0 ccsIo0 : Array (Option Value)} {vsIo0 : Array Value} {tfIo1 : Tok} {nmo1 qo1 flIo1 : Str} {bso1 subo1 : List Value} {sno1 : List Str} {abo1 : Bool} {colo1 : Option Bool} {ddo1 odIo1 anIo1 cldIo1 cddIo1 : Option Addr} {m0o1 m1o1 m2o1 m3o1 m5o1 : Option Value} {oIo1 dcIo1 pmIo1 ctIo1 clIo1 cclIo1 : Value} {slIo1 cslIo1 ccsIo1 : Array (Option Value)} {vsIo1 : Array Value} {lt18 lt7 lt10 : Tok} {li7 li10 : Int} {lb9 : Bool} {lf18 : Str} {cddL odL anL : Option Addr} {oL kVL dcL pmL ctL : Value} {cslL slL : Array (Option Value)} {vsL : Array Value} {t_empty : Tok} {szE foE : Array DictEntry} {szN foN : Nat} {g0d : Option Addr} {g0i : Array Value} {g0n : Nat} {g0s : Array (Option Value)} {g1d : Option Addr} {g1i : Array Value} {g1n : Nat} {g1s : Array (Option Value)} {g2d : Option Addr} {g2i : Array Value} {g2n : Nat} {g2s : Array (Option Value)} {g3d : Option Addr} {g3i : Array Value} {g3n : Nat} {g3s : Array (Option Value)}
    (X : K.In h) (G : h.Ns mainGlobals mg) (hfa : mg "law" = some (.ref fa)) (OT : LamX.OwnTab K fa h)
    (S36 : Std K "is_text" (topS 36) f36)
    (S37 : Std K "is_rising" (topS 37) f37)
    (S32 : Std K "is_beside" (topS 32) f32)
    (S31 : Std K "is_rule" (topS 31) f31)
    (S34 : Std K "is_excepted" (topS 34) f34)
    (S35 : Std K "is_sounds" (topS 35) f35)
    (S33 : Std K "is_exception" (topS 33) f33)
    (S28 : Std K "check_letters" (topS 28) f28)
    (S29 : Std K "check_rules" (topS 29) f29)
    (S30 : Std K "check_exceptions" (topS 30) f30)
    (S27 : Std K "checked_book" (topS 27) f27)
    (S47 : Std K "marked" (topS 47) f47)
    (S48 : Std K "unmarked" (topS 48) f48)
    (S42 : Std K "written" (topS 42) f42)
    (S45 : Std K "is_row" (topS 45) f45)
    (S44 : Std K "check_rows" (topS 44) f44)
    (S46 : Std K "things_of" (topS 46) f46)
    (S43 : Std K "read" (topS 43) f43)
    (S50 : Std K "_law_row" (topS 50) f50)
    (S51 : Std K "_law_taken" (topS 51) f51)
    (S52 : Std K "_law_letters" (topS 52) f52)
    (S53 : Std K "_law_side" (topS 53) f53)
    (S54 : Std K "_law_text" (topS 54) f54)
    (S55 : Std K "_law_rule" (topS 55) f55)
    (S56 : Std K "_law_rules" (topS 56) f56)
    (S57 : Std K "_law_exceptions" (topS 57) f57)
    (S58 : Std K "_law_book" (topS 58) f58)
    (S59 : Std K "_law_spoilt" (topS 59) f59)
    (S60 : Std K "_law_read" (topS 60) f60)
    (S61 : Std K "_law_word" (topS 61) f61)
    (S62 : Std K "_law_alike" (topS 62) f62)
    (a_law : PySem.W.nsIn K mainGlobals "law" = some (some (.ref f63)))
    (l_law : K.lookup f63 = some ⟨oL, odL, .func (PySem.W.fnOf "law" "law" (defArgs sLaw) (defBody sLaw) (defScope sLaw) .none kVL dcL pmL anL (.ref cL) ctL), slL⟩)
    (c_law : PySem.W.codeIn K (.ref cL) "law" = true)
    (k_law : PySem.W.keepIn K (.ref f63) = true)
    (z_len : PySem.W.nsIn K mainGlobals "len" = some none)
    (z_range : PySem.W.nsIn K mainGlobals "range" = some none)
    (z_tuple : PySem.W.nsIn K mainGlobals "tuple" = some none)
    (z_list : PySem.W.nsIn K mainGlobals "list" = some none)
    (z_isinstance : PySem.W.nsIn K mainGlobals "isinstance" = some none)
    (z_str : PySem.W.nsIn K mainGlobals "str" = some none)
    (z_all : PySem.W.nsIn K mainGlobals "all" = some none)
    (z_enumerate : PySem.W.nsIn K mainGlobals "enumerate" = some none)
    (z_sorted : PySem.W.nsIn K mainGlobals "sorted" = some none)
    (z_bool : PySem.W.nsIn K mainGlobals "bool" = some none)
    (c_small : PySem.W.nsIn K mainGlobals "SMALL" = some (some (.str "abcdefghijklmnopqrstuvwxyz" t_small)))
    (c_caps : PySem.W.nsIn K mainGlobals "CAPITALS" = some (some (.str "ABCDEFGHIJKLMNOPQRSTUVWXYZ" t_caps)))
    (c_edge : PySem.W.nsIn K mainGlobals "EDGE" = some (some (.str "#" t_edge)))
    (c_mrul : PySem.W.nsIn K mainGlobals "MOST_RULES" = some (some (.int 12 t_mrul)))
    (c_lexc : PySem.W.nsIn K mainGlobals "LONGEST_EXCEPTION" = some (some (.int 8 t_lexc)))
    (c_lrs : PySem.W.nsIn K mainGlobals "LONGEST_RULE_SOUNDS" = some (some (.int 3 t_lrs)))
    (c_lso : PySem.W.nsIn K mainGlobals "LONGEST_SOUNDS" = some (some (.int 36 t_lso)))
    (c_imost_exceptions : PySem.W.nsIn K mainGlobals "MOST_EXCEPTIONS" = some (some (.int 8 t_imost_exceptions)))
    (c_ino_book : PySem.W.nsIn K mainGlobals "NO_BOOK" = some (some (.int (-1) t_ino_book)))
    (c_iletters : PySem.W.nsIn K mainGlobals "LETTERS" = some (some (.int 0 t_iletters)))
    (c_irules : PySem.W.nsIn K mainGlobals "RULES" = some (some (.int 1 t_irules)))
    (c_iexceptions : PySem.W.nsIn K mainGlobals "EXCEPTIONS" = some (some (.int 2 t_iexceptions)))
    (z_super : PySem.W.nsIn K mainGlobals "super" = some none)
    (z_ValueError : PySem.W.nsIn K mainGlobals "ValueError" = some none)
    (gSayError : PySem.W.nsIn K mainGlobals "SayError" = some (some (.ref xSayError)))
    (gBadBook : PySem.W.nsIn K mainGlobals "BadBook" = some (some (.ref xBadBook)))
    (gBadWord : PySem.W.nsIn K mainGlobals "BadWord" = some (some (.ref xBadWord)))
    (gBadSounds : PySem.W.nsIn K mainGlobals "BadSounds" = some (some (.ref xBadSounds)))
    (gBadCount : PySem.W.nsIn K mainGlobals "BadCount" = some (some (.ref xBadCount)))
    (gUnsaid : PySem.W.nsIn K mainGlobals "Unsaid" = some (some (.ref xUnsaid)))
    (gNoLetter : PySem.W.nsIn K mainGlobals "NoLetter" = some (some (.ref xNoLetter)))
    (gNoException : PySem.W.nsIn K mainGlobals "NoException" = some (some (.ref xNoException)))
    (gOtherLetters : PySem.W.nsIn K mainGlobals "OtherLetters" = some (some (.ref xOtherLetters)))
    (gBadSamples : PySem.W.nsIn K mainGlobals "BadSamples" = some (some (.ref xBadSamples)))
    (gBadDeed : PySem.W.nsIn K mainGlobals "BadDeed" = some (some (.ref xBadDeed)))
    (gHalted : PySem.W.nsIn K mainGlobals "Halted" = some (some (.ref xHalted)))
    (gBadText : PySem.W.nsIn K mainGlobals "BadText" = some (some (.ref xBadText)))
    (eS1 : PySem.W.subIn K (.ref xSayError) (.type "BaseException") = some true)
    (eS2 : PySem.W.hasDictIn K xSayError = true)
    (eS3 : PySem.W.typeIn K (.ref xSayError) = some (.type "type"))
    (BadText_e4 : PySem.W.subIn K (.ref xBadText) (.ref xSayError) = some true)
    (BadText_kBadBook : PySem.W.kitOne K (.ref xBadText) (.ref xBadBook) = some false)
    (BadText_kBadWord : PySem.W.kitOne K (.ref xBadText) (.ref xBadWord) = some false)
    (BadText_kBadSounds : PySem.W.kitOne K (.ref xBadText) (.ref xBadSounds) = some false)
    (BadText_kBadCount : PySem.W.kitOne K (.ref xBadText) (.ref xBadCount) = some false)
    (BadText_kUnsaid : PySem.W.kitOne K (.ref xBadText) (.ref xUnsaid) = some false)
    (BadText_kNoLetter : PySem.W.kitOne K (.ref xBadText) (.ref xNoLetter) = some false)
    (BadText_kNoException : PySem.W.kitOne K (.ref xBadText) (.ref xNoException) = some false)
    (BadText_kOtherLetters : PySem.W.kitOne K (.ref xBadText) (.ref xOtherLetters) = some false)
    (BadText_kBadSamples : PySem.W.kitOne K (.ref xBadText) (.ref xBadSamples) = some false)
    (BadText_kBadDeed : PySem.W.kitOne K (.ref xBadText) (.ref xBadDeed) = some false)
    (BadText_kHalted : PySem.W.kitOne K (.ref xBadText) (.ref xHalted) = some false)
    (BadText_kBadText : PySem.W.kitOne K (.ref xBadText) (.ref xBadText) = some true)
    (BadText_kV : PySem.W.kitOne K (.ref xBadText) (.type "ValueError") = some true)
    (BadText_noP : PySem.W.findIn K (.ref xBadText) "place" = some none)
    (BadText_noN : PySem.W.findIn K (.ref xBadText) "number" = some none)
    (BadText_noA : PySem.W.findIn K (.ref xBadText) "part" = some none)
    (BadText_noD : PySem.W.findIn K (.ref xBadText) "done" = some none)
    (BadText_noR : PySem.W.findIn K (.ref xBadText) "row" = some none)
    (BadText_ga : PySem.W.findIn K (.ref xBadText) "__getattribute__" = some (some (.builtin "BaseException.__getattribute__")))
    (BadText_gg : PySem.W.findIn K (.ref xBadText) "__getattr__" = some none)
    (BadText_hd : PySem.W.hasDictIn K xBadText = true)
    (BadText_ex : PySem.W.subIn K (.ref xBadText) (.type "BaseException") = some true)
    (BadText_ha : PySem.W.findIn K (.ref xBadText) "__class__" = some (some (.builtin "object.__class__")))
    (BadText_hm : PySem.W.mroIn K xBadText (.type "object") = some true)
    (BadBook_e4 : PySem.W.subIn K (.ref xBadBook) (.ref xSayError) = some true)
    (BadBook_kBadBook : PySem.W.kitOne K (.ref xBadBook) (.ref xBadBook) = some true)
    (BadBook_kBadWord : PySem.W.kitOne K (.ref xBadBook) (.ref xBadWord) = some false)
    (BadBook_kBadSounds : PySem.W.kitOne K (.ref xBadBook) (.ref xBadSounds) = some false)
    (BadBook_kBadCount : PySem.W.kitOne K (.ref xBadBook) (.ref xBadCount) = some false)
    (BadBook_kUnsaid : PySem.W.kitOne K (.ref xBadBook) (.ref xUnsaid) = some false)
    (BadBook_kNoLetter : PySem.W.kitOne K (.ref xBadBook) (.ref xNoLetter) = some false)
    (BadBook_kNoException : PySem.W.kitOne K (.ref xBadBook) (.ref xNoException) = some false)
    (BadBook_kOtherLetters : PySem.W.kitOne K (.ref xBadBook) (.ref xOtherLetters) = some false)
    (BadBook_kBadSamples : PySem.W.kitOne K (.ref xBadBook) (.ref xBadSamples) = some false)
    (BadBook_kBadDeed : PySem.W.kitOne K (.ref xBadBook) (.ref xBadDeed) = some false)
    (BadBook_kHalted : PySem.W.kitOne K (.ref xBadBook) (.ref xHalted) = some false)
    (BadBook_kBadText : PySem.W.kitOne K (.ref xBadBook) (.ref xBadText) = some false)
    (BadBook_kV : PySem.W.kitOne K (.ref xBadBook) (.type "ValueError") = some true)
    (BadBook_noP : PySem.W.findIn K (.ref xBadBook) "place" = some none)
    (BadBook_noN : PySem.W.findIn K (.ref xBadBook) "number" = some none)
    (BadBook_noA : PySem.W.findIn K (.ref xBadBook) "part" = some none)
    (BadBook_noD : PySem.W.findIn K (.ref xBadBook) "done" = some none)
    (BadBook_noR : PySem.W.findIn K (.ref xBadBook) "row" = some none)
    (BadBook_ga : PySem.W.findIn K (.ref xBadBook) "__getattribute__" = some (some (.builtin "BaseException.__getattribute__")))
    (BadBook_gg : PySem.W.findIn K (.ref xBadBook) "__getattr__" = some none)
    (BadBook_hd : PySem.W.hasDictIn K xBadBook = true)
    (BadBook_ex : PySem.W.subIn K (.ref xBadBook) (.type "BaseException") = some true)
    (BadBook_ha : PySem.W.findIn K (.ref xBadBook) "__class__" = some (some (.builtin "object.__class__")))
    (BadBook_hm : PySem.W.mroIn K xBadBook (.type "object") = some true)
    (x_hn : PySem.W.specialIn K (.builtin "object.__class__") "__get__" = some (some (.builtin "getset_descriptor.__get__")))
    (x_ht : PySem.W.takesIn K (.builtin "object.__class__") = some true)
    (o0_x : K.lookup xBadText = some (excClassObj nmo0 qo0 xBadText N_o0 bso0 [.ref xSayError, .type "ValueError", .type "Exception", .type "BaseException", .type "object"] true sno0 subo0 abo0 colo0 ddo0 m0o0 m1o0 m2o0 m3o0 m5o0 "ValueError.__new__"))
    (o0_sa : PySem.W.findIn K (.ref xBadText) "__setattr__" = some (some (.builtin "object.__setattr__")))
    (o0_iC : PySem.W.findIn K (.ref xBadText) "__init__" = some (some (.ref fIo0)))
    (o0_tC : PySem.W.typeIn K (.ref fIo0) = some (.type "function"))
    (o0_kC : PySem.W.keepIn K (.ref xBadText) = true)
    (o0_tyC : PySem.W.typeIn K (.ref xBadText) = some (.type "type"))
    (o0_sup : PySem.W.ks_superIn K xBadText xBadText "__init__" = some (some (.builtin "ValueError.__init__")))
    (o0_subV : PySem.W.subIn K (.ref xBadText) (.type "ValueError") = some true)
    (o0_subE : PySem.W.subIn K (.ref xBadText) (.type "BaseException") = some true)
    (o0_any : PySem.W.nsIn K cStatics "thirdparty.any" = some none)
    (o0_main : (l.prog.main.scope.names.lookup ("super" : Str)).isSome = false)
    (o0_fn : K.lookup fIo0 = some ⟨oIo0, odIo0, .func (PySem.W.ksFn "__init__" "BadText.__init__" PySem.XBadText.iA PySem.XBadText.iB PySem.XBadText.iS .none .none dcIo0 pmIo0 anIo0 (.ref cdIo0) ctIo0 ccIo0), slIo0⟩)
    (o0_cd : PySem.W.codeIn K (.ref cdIo0) "BadText.__init__" = true)
    (o0_cell : K.lookup ccIo0 = some ⟨clIo0, cldIo0, .cell (some (.ref xBadText)), cslIo0⟩)
    (o0_code : K.lookup cdIo0 = some ⟨cclIo0, cddIo0, .fields vsIo0, ccsIo0⟩)
    (o0_vs : vsIo0[2]? = some (.str flIo0 tfIo0))
    (o0_file : ((l.prog.main.file : Str) == flIo0) = true)
    (o0_no0 : PySem.W.findIn K (.ref xBadText) "row" = some none)
    (o1_x : K.lookup xBadBook = some (excClassObj nmo1 qo1 xBadBook N_o1 bso1 [.ref xSayError, .type "ValueError", .type "Exception", .type "BaseException", .type "object"] true sno1 subo1 abo1 colo1 ddo1 m0o1 m1o1 m2o1 m3o1 m5o1 "ValueError.__new__"))
    (o1_sa : PySem.W.findIn K (.ref xBadBook) "__setattr__" = some (some (.builtin "object.__setattr__")))
    (o1_iC : PySem.W.findIn K (.ref xBadBook) "__init__" = some (some (.ref fIo1)))
    (o1_tC : PySem.W.typeIn K (.ref fIo1) = some (.type "function"))
    (o1_kC : PySem.W.keepIn K (.ref xBadBook) = true)
    (o1_tyC : PySem.W.typeIn K (.ref xBadBook) = some (.type "type"))
    (o1_sup : PySem.W.ks_superIn K xBadBook xBadBook "__init__" = some (some (.builtin "ValueError.__init__")))
    (o1_subV : PySem.W.subIn K (.ref xBadBook) (.type "ValueError") = some true)
    (o1_subE : PySem.W.subIn K (.ref xBadBook) (.type "BaseException") = some true)
    (o1_any : PySem.W.nsIn K cStatics "thirdparty.any" = some none)
    (o1_main : (l.prog.main.scope.names.lookup ("super" : Str)).isSome = false)
    (o1_fn : K.lookup fIo1 = some ⟨oIo1, odIo1, .func (PySem.W.ksFn "__init__" "BadBook.__init__" PySem.XBadBook.iA PySem.XBadBook.iB PySem.XBadBook.iS .none .none dcIo1 pmIo1 anIo1 (.ref cdIo1) ctIo1 ccIo1), slIo1⟩)
    (o1_cd : PySem.W.codeIn K (.ref cdIo1) "BadBook.__init__" = true)
    (o1_cell : K.lookup ccIo1 = some ⟨clIo1, cldIo1, .cell (some (.ref xBadBook)), cslIo1⟩)
    (o1_code : K.lookup cdIo1 = some ⟨cclIo1, cddIo1, .fields vsIo1, ccsIo1⟩)
    (o1_vs : vsIo1[2]? = some (.str flIo1 tfIo1))
    (o1_file : ((l.prog.main.file : Str) == flIo1) = true)
    (o1_no0 : PySem.W.findIn K (.ref xBadBook) "part" = some none)
    (o1_no1 : PySem.W.findIn K (.ref xBadBook) "number" = some none)
    (l_code : K.lookup cL = some ⟨.type "code", cddL, .fields vsL, cslL⟩)
    (l_vs : vsL[11]? = some (.ref Pt))
    (l_v11 : vsL.getD 11 .none = .ref Pt)
    (l_v18 : vsL.getD 18 .none = .str lf18 lt18)
    (l_v7 : vsL.getD 7 .none = .int li7 lt7)
    (l_v9 : vsL.getD 9 .none = .bool lb9)
    (l_v10 : vsL.getD 10 .none = .int li10 lt10)
    (l_ne : cL ≠ Pt)
    (l_no : K.lookup Pt = none)
    (c_empty : PySem.W.nsIn K mainGlobals "EMPTY" = some (some (.str "-" t_empty)))
    (gSIZES : PySem.W.nsIn K mainGlobals "SIZES" = some (some (.ref aSz)))
    (sz_l : K.lookup aSz = some ⟨.type "dict", none, .dict szE szN, #[]⟩)
    (sz_k : PySem.W.KeysLit w.params szE.toList)
    (sz_o : (aSz == sysModules) = false)
    (sz_v : Paired (fun (e : DictEntry) (kv : Str × V) => (∃ t, e.key = .str kv.1 t) ∧ RelV kv.2 e.val) szE.toList [("letters", .int 2), ("rule", .int 5), ("word", .int 3)])
    (gFOLL : PySem.W.nsIn K mainGlobals "FOLLOWING" = some (some (.ref aFo)))
    (fo_l : K.lookup aFo = some ⟨.type "dict", none, .dict foE foN, #[]⟩)
    (fo_k : PySem.W.KeysLit w.params foE.toList)
    (fo_o : (aFo == sysModules) = false)
    (fo_v : Paired (fun (e : DictEntry) (kv : Str × V) => (∃ t, e.key = .str kv.1 t) ∧ RelV kv.2 e.val) foE.toList [("", .ref aF0), ("letters", .ref aF1), ("rule", .ref aF2), ("word", .ref aF3)])
    (f0_l : K.lookup aF0 = some ⟨.type "tuple", g0d, .seq g0i g0n, g0s⟩)
    (f0_z : g0i.size ≤ sizeLine)
    (f0_r : Vals [V.str "letters"] g0i.toList)
    (f1_l : K.lookup aF1 = some ⟨.type "tuple", g1d, .seq g1i g1n, g1s⟩)
    (f1_z : g1i.size ≤ sizeLine)
    (f1_r : Vals [V.str "rule", V.str "word"] g1i.toList)
    (f2_l : K.lookup aF2 = some ⟨.type "tuple", g2d, .seq g2i g2n, g2s⟩)
    (f2_z : g2i.size ≤ sizeLine)
    (f2_r : Vals [V.str "rule", V.str "word"] g2i.toList)
    (f3_l : K.lookup aF3 = some ⟨.type "tuple", g3d, .seq g3i g3n, g3s⟩)
    (f3_z : g3i.size ≤ sizeLine)
    (f3_r : Vals [V.str "word"] g3i.toList)
    : LamX.LawAtS l w K CX0 9 63 "_law_script" mg fa h := by
  have e := hfa.symm.trans (PySem.W.mg_of X G a_law)
  cases e
  have B : Bn mg := ⟨PySem.W.mg_none_of X G z_len, PySem.W.mg_none_of X G z_range, PySem.W.mg_none_of X G z_tuple, PySem.W.mg_none_of X G z_list, PySem.W.mg_none_of X G z_isinstance, PySem.W.mg_none_of X G z_str, PySem.W.mg_none_of X G z_all, PySem.W.mg_none_of X G z_enumerate, PySem.W.mg_none_of X G z_sorted, PySem.W.mg_none_of X G z_bool⟩
  have C : Cn mg := ⟨⟨_, PySem.W.mg_of X G c_small⟩, ⟨_, PySem.W.mg_of X G c_caps⟩, ⟨_, PySem.W.mg_of X G c_edge⟩, ⟨_, PySem.W.mg_of X G c_mrul⟩, ⟨_, PySem.W.mg_of X G c_lexc⟩, ⟨_, PySem.W.mg_of X G c_lrs⟩, ⟨_, PySem.W.mg_of X G c_lso⟩⟩
  have KI_MOST_EXCEPTIONS : KI mg "MOST_EXCEPTIONS" 8 := ⟨_, PySem.W.mg_of X G c_imost_exceptions⟩
  have KI_NO_BOOK : KI mg "NO_BOOK" (-1) := ⟨_, PySem.W.mg_of X G c_ino_book⟩
  have KI_LETTERS : KI mg "LETTERS" 0 := ⟨_, PySem.W.mg_of X G c_iletters⟩
  have KI_RULES : KI mg "RULES" 1 := ⟨_, PySem.W.mg_of X G c_irules⟩
  have KI_EXCEPTIONS : KI mg "EXCEPTIONS" 2 := ⟨_, PySem.W.mg_of X G c_iexceptions⟩
  have EC_BadText : ExcC K xBadText := ⟨BadText_ga, BadText_gg, BadText_ex, BadText_hd, BadText_ha, x_hn, x_ht, BadText_hm⟩
  have WC_BadText : WordC K mg xBadText 11 := { say := ⟨_, PySem.W.mg_of X G gSayError, PySem.W.exm_ref eS1 eS2 eS3 BadText_e4⟩, book := ⟨_, PySem.W.mg_of X G gBadBook, BadText_kBadBook⟩, word := ⟨_, PySem.W.mg_of X G gBadWord, BadText_kBadWord⟩, snds := ⟨_, PySem.W.mg_of X G gBadSounds, BadText_kBadSounds⟩, coun := ⟨_, PySem.W.mg_of X G gBadCount, BadText_kBadCount⟩, uns := ⟨_, PySem.W.mg_of X G gUnsaid, BadText_kUnsaid⟩, lett := ⟨_, PySem.W.mg_of X G gNoLetter, BadText_kNoLetter⟩, exce := ⟨_, PySem.W.mg_of X G gNoException, BadText_kNoException⟩, othe := ⟨_, PySem.W.mg_of X G gOtherLetters, BadText_kOtherLetters⟩, samp := ⟨_, PySem.W.mg_of X G gBadSamples, BadText_kBadSamples⟩, deed := ⟨_, PySem.W.mg_of X G gBadDeed, BadText_kBadDeed⟩, halt := ⟨_, PySem.W.mg_of X G gHalted, BadText_kHalted⟩, text := ⟨_, PySem.W.mg_of X G gBadText, BadText_kBadText⟩, val := PySem.W.mg_none_of X G z_ValueError, kv := BadText_kV, exc := EC_BadText, xf := ⟨BadText_ga, BadText_gg, BadText_ex, BadText_hd⟩, noP := BadText_noP, noN := BadText_noN, noA := BadText_noA, noD := BadText_noD, noR := BadText_noR }
  have EC_BadBook : ExcC K xBadBook := ⟨BadBook_ga, BadBook_gg, BadBook_ex, BadBook_hd, BadBook_ha, x_hn, x_ht, BadBook_hm⟩
  have WC_BadBook : WordC K mg xBadBook 0 := { say := ⟨_, PySem.W.mg_of X G gSayError, PySem.W.exm_ref eS1 eS2 eS3 BadBook_e4⟩, book := ⟨_, PySem.W.mg_of X G gBadBook, BadBook_kBadBook⟩, word := ⟨_, PySem.W.mg_of X G gBadWord, BadBook_kBadWord⟩, snds := ⟨_, PySem.W.mg_of X G gBadSounds, BadBook_kBadSounds⟩, coun := ⟨_, PySem.W.mg_of X G gBadCount, BadBook_kBadCount⟩, uns := ⟨_, PySem.W.mg_of X G gUnsaid, BadBook_kUnsaid⟩, lett := ⟨_, PySem.W.mg_of X G gNoLetter, BadBook_kNoLetter⟩, exce := ⟨_, PySem.W.mg_of X G gNoException, BadBook_kNoException⟩, othe := ⟨_, PySem.W.mg_of X G gOtherLetters, BadBook_kOtherLetters⟩, samp := ⟨_, PySem.W.mg_of X G gBadSamples, BadBook_kBadSamples⟩, deed := ⟨_, PySem.W.mg_of X G gBadDeed, BadBook_kBadDeed⟩, halt := ⟨_, PySem.W.mg_of X G gHalted, BadBook_kHalted⟩, text := ⟨_, PySem.W.mg_of X G gBadText, BadBook_kBadText⟩, val := PySem.W.mg_none_of X G z_ValueError, kv := BadBook_kV, exc := EC_BadBook, xf := ⟨BadBook_ga, BadBook_gg, BadBook_ex, BadBook_hd⟩, noP := BadBook_noP, noN := BadBook_noN, noA := BadBook_noA, noD := BadBook_noD, noR := BadBook_noR }
  have O_BadText : PySem.XBadText.ExTxt l.prog K mg xBadText fIo0 := { gC := PySem.W.mg_of X G gBadText, sB := PySem.W.mg_none_of X G z_super, cls := ⟨_, _, _, _, _, _, _, _, _, _, _, _, _, _, _, o0_x, rfl⟩, sa := o0_sa, noP0 := o0_no0, iC := o0_iC, tC := o0_tC, kC := o0_kC, exC := o0_subE, tyC := o0_tyC, sup := o0_sup, subV := o0_subV, any := o0_any, main := o0_main, fn := ⟨_, _, _, _, _, _, _, _, _, o0_fn, o0_cd, ⟨_, _, _, o0_cell⟩, _, _, _, _, _, _, o0_code, o0_vs, o0_file⟩ }
  have O_BadBook : PySem.XBadBook.ExTxt l.prog K mg xBadBook fIo1 := { gC := PySem.W.mg_of X G gBadBook, sB := PySem.W.mg_none_of X G z_super, cls := ⟨_, _, _, _, _, _, _, _, _, _, _, _, _, _, _, o1_x, rfl⟩, sa := o1_sa, noP0 := o1_no0, noP1 := o1_no1, iC := o1_iC, tC := o1_tC, kC := o1_kC, exC := o1_subE, tyC := o1_tyC, sup := o1_sup, subV := o1_subV, any := o1_any, main := o1_main, fn := ⟨_, _, _, _, _, _, _, _, _, o1_fn, o1_cd, ⟨_, _, _, o1_cell⟩, _, _, _, _, _, _, o1_code, o1_vs, o1_file⟩ }
  have NK : NoteK K w mg := { sz := ⟨aSz, szE, szN, PySem.W.mg_of X G gSIZES, sz_l, sz_k, fun h => by rw [← size_tab]; exact kgt_all sz_l sz_k sz_o sz_v (T h)⟩, fo := ⟨aFo, PySem.W.mg_of X G gFOLL, foll_all fo_l fo_k fo_o fo_v (fun _ => .inr ⟨_, _, _, f0_l, rfl, rfl, f0_z, f0_r⟩) (fun _ => .inr ⟨_, _, _, f1_l, rfl, rfl, f1_z, f1_r⟩) (fun _ => .inr ⟨_, _, _, f2_l, rfl, rfl, f2_z, f2_r⟩) (fun _ => .inr ⟨_, _, _, f3_l, rfl, rfl, f3_z, f3_r⟩)⟩ }
  have hPt : h.get? Pt = some { cls := .none, data := .fields #[] } := OT cL Pt _ _ _ _ _ _ l_law rfl rfl l_code l_vs
  refine ⟨PySem.W.fnOf "law" "law" (defArgs sLaw) (defBody sLaw) (defScope sLaw) .none kVL dcL pmL anL (.ref cL) ctL, [(cL, Pt)], spLawT K Pt, fun p hp => ?_, fun p hp => ?_, fun p hp => ?_, fun s v => .of_eq rfl, fun H a ns hl _ hH hS => ?_, fun base _ _ TB => ?_⟩
  · rw [List.mem_singleton.mp hp]; exact hPt
  · rw [List.mem_singleton.mp hp]; exact l_no
  · rw [List.mem_singleton.mp hp]; exact ⟨_, _, _, _, _, _, _, _, _, X _ _ l_code, rfl, rfl, l_vs, l_v11, l_v18, l_v7, l_v9, l_v10, l_ne⟩
  · exact ⟨a, ns, rfl, hS, hl, hH _ (List.mem_singleton.mpr rfl), fun _ => rfl⟩
  obtain ⟨d36, F36, _⟩ := S36.fn
  have m36 := PySem.W.mg_of X G S36.ns
  have b36 := F36.binds (ps := ["text", "signs", "least", "most"]) fun _ _ _ _ _ _ us hl => match us, hl with | [_, _, _, _], _ => rfl
  have D_is_text : Df l.prog w K mg base "is_text" ["text", "signs", "least", "most"] 1 spIsText := ⟨_, _, ok_isText F36 B, F36.kp, b36, m36⟩
  obtain ⟨d37, F37, _⟩ := S37.fn
  have m37 := PySem.W.mg_of X G S37.ns
  have b37 := F37.binds (ps := ["text"]) fun _ _ _ _ _ _ us hl => match us, hl with | [_], _ => rfl
  have D_is_rising : Df l.prog w K mg base "is_rising" ["text"] 1 spRise := ⟨_, _, ok_rise F37 B, F37.kp, b37, m37⟩
  obtain ⟨d32, F32, _⟩ := S32.fn
  have m32 := PySem.W.mg_of X G S32.ns
  have b32 := F32.binds (ps := ["letters", "signs"]) fun _ _ _ _ _ _ us hl => match us, hl with | [_, _], _ => rfl
  have D_is_beside : Df l.prog w K mg base "is_beside" ["letters", "signs"] 2 spBeside := ⟨_, _, ok_beside F32 B C D_is_text D_is_rising, F32.kp, b32, m32⟩
  obtain ⟨d31, F31, _⟩ := S31.fn
  have m31 := PySem.W.mg_of X G S31.ns
  have b31 := F31.binds (ps := ["letters", "rule"]) fun _ _ _ _ _ _ us hl => match us, hl with | [_, _], _ => rfl
  have D_is_rule : Df l.prog w K mg base "is_rule" ["letters", "rule"] 3 spIsRule := ⟨_, _, ok_isRule F31 B C D_is_text D_is_beside, F31.kp, b31, m31⟩
  obtain ⟨d34, F34, _⟩ := S34.fn
  have m34 := PySem.W.mg_of X G S34.ns
  have b34 := F34.binds (ps := ["letters", "word"]) fun _ _ _ _ _ _ us hl => match us, hl with | [_, _], _ => rfl
  have D_is_excepted : Df l.prog w K mg base "is_excepted" ["letters", "word"] 2 spExcd := ⟨_, _, ok_excd F34 C D_is_text, F34.kp, b34, m34⟩
  obtain ⟨d35, F35, _⟩ := S35.fn
  have m35 := PySem.W.mg_of X G S35.ns
  have b35 := F35.binds (ps := ["sounds"]) fun _ _ _ _ _ _ us hl => match us, hl with | [_], _ => rfl
  have D_is_sounds : Df l.prog w K mg base "is_sounds" ["sounds"] 2 spIsSo := ⟨_, _, ok_isSo F35 C D_is_text, F35.kp, b35, m35⟩
  obtain ⟨d33, F33, _⟩ := S33.fn
  have m33 := PySem.W.mg_of X G S33.ns
  have b33 := F33.binds (ps := ["letters", "pair"]) fun _ _ _ _ _ _ us hl => match us, hl with | [_, _], _ => rfl
  have D_is_exception : Df l.prog w K mg base "is_exception" ["letters", "pair"] 3 spIsExc := ⟨_, _, ok_isExc F33 B D_is_excepted D_is_sounds, F33.kp, b33, m33⟩
  obtain ⟨d28, F28, _⟩ := S28.fn
  have m28 := PySem.W.mg_of X G S28.ns
  have b28 := F28.binds (ps := ["letters"]) fun _ _ _ _ _ _ us hl => match us, hl with | [_], _ => rfl
  have D_check_letters : Df l.prog w K mg base "check_letters" ["letters"] 2 spChL := ⟨_, _, ok_chL F28 C D_is_text D_is_rising, F28.kp, b28, m28⟩
  obtain ⟨d29, F29, _⟩ := S29.fn
  have m29 := PySem.W.mg_of X G S29.ns
  have b29 := F29.binds (ps := ["letters", "rules"]) fun _ _ _ _ _ _ us hl => match us, hl with | [_, _], _ => rfl
  have D_check_rules : Df l.prog w K mg base "check_rules" ["letters", "rules"] 4 spChR := ⟨_, _, ok_chR F29 B C D_is_rule, F29.kp, b29, m29⟩
  obtain ⟨d30, F30, _⟩ := S30.fn
  have m30 := PySem.W.mg_of X G S30.ns
  have b30 := F30.binds (ps := ["letters", "exceptions"]) fun _ _ _ _ _ _ us hl => match us, hl with | [_, _], _ => rfl
  have D_check_exceptions : Df l.prog w K mg base "check_exceptions" ["letters", "exceptions"] 4 spChE := ⟨_, _, ok_chE F30 B KI_MOST_EXCEPTIONS D_is_exception, F30.kp, b30, m30⟩
  obtain ⟨d27, F27, _⟩ := S27.fn
  have m27 := PySem.W.mg_of X G S27.ns
  have b27 := F27.binds (ps := ["book"]) fun _ _ _ _ _ _ us hl => match us, hl with | [_], _ => rfl
  have D_checked_book : Df l.prog w K mg base "checked_book" ["book"] 5 spCh := ⟨_, _, ok_ch F27 B D_check_letters D_check_rules D_check_exceptions, F27.kp, b27, m27⟩
  obtain ⟨d47, F47, _⟩ := S47.fn
  have m47 := PySem.W.mg_of X G S47.ns
  have b47 := F47.binds (ps := ["text"]) fun _ _ _ _ _ _ us hl => match us, hl with | [_], _ => rfl
  have D_marked : Df l.prog w K mg base "marked" ["text"] 1 spMk := ⟨_, _, ok_mk (k := 0) F47 ⟨_, PySem.W.mg_of X G c_empty⟩, F47.kp, b47, m47⟩
  obtain ⟨d48, F48, _⟩ := S48.fn
  have m48 := PySem.W.mg_of X G S48.ns
  have b48 := F48.binds (ps := ["word"]) fun _ _ _ _ _ _ us hl => match us, hl with | [_], _ => rfl
  have D_unmarked : Df l.prog w K mg base "unmarked" ["word"] 1 spUm := ⟨_, _, ok_um (k := 0) F48 ⟨_, PySem.W.mg_of X G c_empty⟩, F48.kp, b48, m48⟩
  obtain ⟨d42, F42, _⟩ := S42.fn
  have m42 := PySem.W.mg_of X G S42.ns
  have b42 := F42.binds (ps := ["book"]) fun _ _ _ _ _ _ us hl => match us, hl with | [_], _ => rfl
  have D_written : Df l.prog w K mg base "written" ["book"] 6 spWt := ⟨_, _, ok_wt F42 D_checked_book D_marked, F42.kp, b42, m42⟩
  obtain ⟨d45, F45, _⟩ := S45.fn
  have m45 := PySem.W.mg_of X G S45.ns
  have b45 := F45.binds (ps := ["words"]) fun _ _ _ _ _ _ us hl => match us, hl with | [_], _ => rfl
  have D_is_row : Df l.prog w K mg base "is_row" ["words"] 1 spIr := ⟨_, _, ok_ir (k := 0) F45 B NK, F45.kp, b45, m45⟩
  obtain ⟨d44, F44, _⟩ := S44.fn
  have m44 := PySem.W.mg_of X G S44.ns
  obtain ⟨d46, F46, _⟩ := S46.fn
  have m46 := PySem.W.mg_of X G S46.ns
  obtain ⟨d43, F43, _⟩ := S43.fn
  have m43 := PySem.W.mg_of X G S43.ns
  obtain ⟨d50, F50, _⟩ := S50.fn
  have m50 := PySem.W.mg_of X G S50.ns
  have b50 := F50.binds (ps := ["_law_script"]) fun _ _ _ _ _ _ us hl => match us, hl with | [_], _ => rfl
  have D__law_row : Df l.prog w K mg base "_law_row" ["_law_script"] 1 (spRow K) := ⟨_, _, ok_row F50, F50.kp, b50, m50⟩
  obtain ⟨d51, F51, _⟩ := S51.fn
  have m51 := PySem.W.mg_of X G S51.ns
  have b51 := F51.binds (ps := ["_law_row_here", "_law_many"]) fun _ _ _ _ _ _ us hl => match us, hl with | [_, _], _ => rfl
  have D__law_taken : Df l.prog w K mg base "_law_taken" ["_law_row_here", "_law_many"] 1 (spTaken K) := ⟨_, _, ok_taken F51 B.len, F51.kp, b51, m51⟩
  obtain ⟨d52, F52, _⟩ := S52.fn
  have m52 := PySem.W.mg_of X G S52.ns
  have b52 := F52.binds (ps := ["_law_row_here"]) fun _ _ _ _ _ _ us hl => match us, hl with | [_], _ => rfl
  have D__law_letters : Df l.prog w K mg base "_law_letters" ["_law_row_here"] 2 (spLetters K) := ⟨_, _, ok_letters F52 D__law_taken, F52.kp, b52, m52⟩
  obtain ⟨d53, F53, _⟩ := S53.fn
  have m53 := PySem.W.mg_of X G S53.ns
  have b53 := F53.binds (ps := ["_law_row_here", "_law_letters_here"]) fun _ _ _ _ _ _ us hl => match us, hl with | [_, _], _ => rfl
  have D__law_side : Df l.prog w K mg base "_law_side" ["_law_row_here", "_law_letters_here"] 2 (spSide K) := ⟨_, _, ok_side F53 D__law_taken, F53.kp, b53, m53⟩
  obtain ⟨d54, F54, _⟩ := S54.fn
  have m54 := PySem.W.mg_of X G S54.ns
  have b54 := F54.binds (ps := ["_law_row_here", "_law_signs", "_law_fewest", "_law_many"]) fun _ _ _ _ _ _ us hl => match us, hl with | [_, _, _, _], _ => rfl
  have D__law_text : Df l.prog w K mg base "_law_text" ["_law_row_here", "_law_signs", "_law_fewest", "_law_many"] 2 (spText K) := ⟨_, _, ok_text F54 D__law_taken B.len B.rng, F54.kp, b54, m54⟩
  obtain ⟨d55, F55, _⟩ := S55.fn
  have m55 := PySem.W.mg_of X G S55.ns
  have b55 := F55.binds (ps := ["_law_row_here", "_law_letters_here"]) fun _ _ _ _ _ _ us hl => match us, hl with | [_, _], _ => rfl
  have D__law_rule : Df l.prog w K mg base "_law_rule" ["_law_row_here", "_law_letters_here"] 3 (spRule K) := ⟨_, _, ok_rule F55 D__law_taken D__law_side D__law_text, F55.kp, b55, m55⟩
  obtain ⟨d56, F56, _⟩ := S56.fn
  have m56 := PySem.W.mg_of X G S56.ns
  have b56 := F56.binds (ps := ["_law_row_here", "_law_letters_here", "_law_most"]) fun _ _ _ _ _ _ us hl => match us, hl with | [_, _, _], _ => rfl
  have D__law_rules : Df l.prog w K mg base "_law_rules" ["_law_row_here", "_law_letters_here", "_law_most"] 4 (spRules K) := ⟨_, _, ok_rules F56 D__law_taken D__law_rule B.rng B.tup, F56.kp, b56, m56⟩
  obtain ⟨d57, F57, _⟩ := S57.fn
  have m57 := PySem.W.mg_of X G S57.ns
  have b57 := F57.binds (ps := ["_law_row_here", "_law_letters_here", "_law_most"]) fun _ _ _ _ _ _ us hl => match us, hl with | [_, _, _], _ => rfl
  have D__law_exceptions : Df l.prog w K mg base "_law_exceptions" ["_law_row_here", "_law_letters_here", "_law_most"] 3 (spLE4 K) := ⟨_, _, ok_LE4 F57 B D__law_taken D__law_text, F57.kp, b57, m57⟩
  obtain ⟨d58, F58, _⟩ := S58.fn
  have m58 := PySem.W.mg_of X G S58.ns
  have b58 := F58.binds (ps := ["_law_row_here"]) fun _ _ _ _ _ _ us hl => match us, hl with | [_], _ => rfl
  have D__law_book : Df l.prog w K mg base "_law_book" ["_law_row_here"] 5 (spLB4 K) := ⟨_, _, ok_LB4 F58 D__law_letters D__law_rules D__law_exceptions, F58.kp, b58, m58⟩
  obtain ⟨d59, F59, _⟩ := S59.fn
  have m59 := PySem.W.mg_of X G S59.ns
  have b59 := F59.binds (ps := ["_law_row_here", "_law_rows"]) fun _ _ _ _ _ _ us hl => match us, hl with | [_, _], _ => rfl
  have D__law_spoilt : Df l.prog w K mg base "_law_spoilt" ["_law_row_here", "_law_rows"] 4 (spLSp K) := ⟨_, _, ok_LSp F59 B D__law_taken, F59.kp, b59, m59⟩
  obtain ⟨d60, F60, _⟩ := S60.fn
  have m60 := PySem.W.mg_of X G S60.ns
  have b60 := F60.binds (ps := ["_law_text_here"]) fun _ _ _ _ _ _ us hl => match us, hl with | [_], _ => rfl
  have D__law_read : Df l.prog w K mg base "_law_read" ["_law_text_here"] 1 (spLRd K) := ⟨_, _, ok_LRd F60 B, F60.kp, b60, m60⟩
  obtain ⟨d61, F61, _⟩ := S61.fn
  have m61 := PySem.W.mg_of X G S61.ns
  obtain ⟨d62, F62, _⟩ := S62.fn
  have m62 := PySem.W.mg_of X G S62.ns
  have b62 := F62.binds (ps := ["_law_found", "_law_due"]) fun _ _ _ _ _ _ us hl => match us, hl with | [_, _], _ => rfl
  have D__law_alike : Df l.prog w K mg base "_law_alike" ["_law_found", "_law_due"] 4 (spAl K 4) := ⟨_, _, al_all F62 b62 m62 B 4, F62.kp, b62, m62⟩
  have V1 : Df l.prog w K mg base "is_text" ["text", "signs", "least", "most"] 1 (spTxV K) := ⟨_, _, ok_txV F36 B, F36.kp, b36, m36⟩
  have V2 : Df l.prog w K mg base "is_beside" ["letters", "signs"] 2 (spBesV K) := ⟨_, _, ok_besV F32 B C V1 D_is_rising, F32.kp, b32, m32⟩
  have V3 : Df l.prog w K mg base "is_rule" ["letters", "rule"] 3 (spIsRuV K) := ⟨_, _, ok_isRuV F31 B C V1 V2, F31.kp, b31, m31⟩
  have V4 : Df l.prog w K mg base "is_excepted" ["letters", "word"] 2 (spExdV K) := ⟨_, _, ok_exdV F34 C V1, F34.kp, b34, m34⟩
  have V5 : Df l.prog w K mg base "is_sounds" ["sounds"] 2 (spSoV K) := ⟨_, _, ok_soV F35 C V1, F35.kp, b35, m35⟩
  have V6 : Df l.prog w K mg base "is_exception" ["letters", "pair"] 3 (spIsExV K) := ⟨_, _, ok_isExV F33 B V4 V5, F33.kp, b33, m33⟩
  have G7 := ok_chLV (w := w) (base := base) F28 C KI_LETTERS O_BadBook V1 D_is_rising
  have G8 := ok_chRV (w := w) (base := base) F29 B C KI_RULES O_BadBook V3
  have G9 := ok_chEV (w := w) (base := base) F30 B KI_MOST_EXCEPTIONS KI_EXCEPTIONS O_BadBook V6
  have G10 := ok_chV (w := w) (base := base) F27 B KI_NO_BOOK O_BadBook G7 F28.kp b28 m28 G8 F29.kp b29 m29 G9 F30.kp b30 m30
  have b44 := F44.binds (ps := ["rows"]) fun _ _ _ _ _ _ us hl => match us, hl with | [_], _ => rfl
  have b46 := F46.binds (ps := ["rows", "kind"]) fun _ _ _ _ _ _ us hl => match us, hl with | [_, _], _ => rfl
  have b43 := F43.binds (ps := ["text"]) fun _ _ _ _ _ _ us hl => match us, hl with | [_], _ => rfl
  have G11 := ok_crX (w := w) (base := base) F44 B NK O_BadText D_is_row
  have G12 := ok_rdX (w := w) (base := base) F43 B G11 F44.kp b44 m44 D_unmarked (fun fr => ok_to fr F46 B D_unmarked) F46.kp b46 m46 G10 F27.kp b27 m27
  exact ok_law l_law c_law (TB _ (List.mem_singleton.mpr rfl)) B WC_BadText WC_BadBook F61 m61 G12 F43.kp b43 m43 D__law_row D__law_book D_written D__law_spoilt D__law_read D__law_alike
end Say
open PySem PySem.W PyProof.Rows
set_option maxRecDepth 100000 in
set_option maxHeartbeats 0 in
theorem PySem.Challenge.cw_saylore_k24_any_text_read_holds : PySem.Challenge.rw_saylore_k24_any_text_read.Holds := by
  w_on; o_law; k_head; (case hw => w_witness2)
  k_fill
  refine LamX.walk_ofOwn (l := PySem.Challenge.rw_saylore_k24_any_text_read) (n := 63) (k := 9) (x := "_law_script") (CX := fun _ => L2.CX0) rfl (by decide) rfl ⟨rfl, by decide, by decide⟩ (by decide +kernel) (fun w h Y => PySem.W.km_in_of Y) ?F (fun _ _ _ _ _ h => h)
  case F =>
    intro w mg fa h KY KX G hmg OT
    refine' Say.all_ok KX G hmg OT (Say.std_mk ?a36 ?l36 ?c36 ?k36) (Say.std_mk ?a37 ?l37 ?c37 ?k37) (Say.std_mk ?a32 ?l32 ?c32 ?k32) (Say.std_mk ?a31 ?l31 ?c31 ?k31) (Say.std_mk ?a34 ?l34 ?c34 ?k34) (Say.std_mk ?a35 ?l35 ?c35 ?k35) (Say.std_mk ?a33 ?l33 ?c33 ?k33) (Say.std_mk ?a28 ?l28 ?c28 ?k28) (Say.std_mk ?a29 ?l29 ?c29 ?k29) (Say.std_mk ?a30 ?l30 ?c30 ?k30) (Say.std_mk ?a27 ?l27 ?c27 ?k27) (Say.std_mk ?a47 ?l47 ?c47 ?k47) (Say.std_mk ?a48 ?l48 ?c48 ?k48) (Say.std_mk ?a42 ?l42 ?c42 ?k42) (Say.std_mk ?a45 ?l45 ?c45 ?k45) (Say.std_mk ?a44 ?l44 ?c44 ?k44) (Say.std_mk ?a46 ?l46 ?c46 ?k46) (Say.std_mk ?a43 ?l43 ?c43 ?k43) (Say.std_mk ?a50 ?l50 ?c50 ?k50) (Say.std_mk ?a51 ?l51 ?c51 ?k51) (Say.std_mk ?a52 ?l52 ?c52 ?k52) (Say.std_mk ?a53 ?l53 ?c53 ?k53) (Say.std_mk ?a54 ?l54 ?c54 ?k54) (Say.std_mk ?a55 ?l55 ?c55 ?k55) (Say.std_mk ?a56 ?l56 ?c56 ?k56) (Say.std_mk ?a57 ?l57 ?c57 ?k57) (Say.std_mk ?a58 ?l58 ?c58 ?k58) (Say.std_mk ?a59 ?l59 ?c59 ?k59) (Say.std_mk ?a60 ?l60 ?c60 ?k60) (Say.std_mk ?a61 ?l61 ?c61 ?k61) (Say.std_mk ?a62 ?l62 ?c62 ?k62) ?a_law ?l_law ?c_law ?k_law ?z_len ?z_range ?z_tuple ?z_list ?z_isinstance ?z_str ?z_all ?z_enumerate ?z_sorted ?z_bool ?c_small ?c_caps ?c_edge ?c_mrul ?c_lexc ?c_lrs ?c_lso ?c_imost_exceptions ?c_ino_book ?c_iletters ?c_irules ?c_iexceptions ?z_super ?z_ValueError ?gSayError ?gBadBook ?gBadWord ?gBadSounds ?gBadCount ?gUnsaid ?gNoLetter ?gNoException ?gOtherLetters ?gBadSamples ?gBadDeed ?gHalted ?gBadText ?eS1 ?eS2 ?eS3 ?BadText_e4 ?BadText_kBadBook ?BadText_kBadWord ?BadText_kBadSounds ?BadText_kBadCount ?BadText_kUnsaid ?BadText_kNoLetter ?BadText_kNoException ?BadText_kOtherLetters ?BadText_kBadSamples ?BadText_kBadDeed ?BadText_kHalted ?BadText_kBadText ?BadText_kV ?BadText_noP ?BadText_noN ?BadText_noA ?BadText_noD ?BadText_noR ?BadText_ga ?BadText_gg ?BadText_hd ?BadText_ex ?BadText_ha ?BadText_hm ?BadBook_e4 ?BadBook_kBadBook ?BadBook_kBadWord ?BadBook_kBadSounds ?BadBook_kBadCount ?BadBook_kUnsaid ?BadBook_kNoLetter ?BadBook_kNoException ?BadBook_kOtherLetters ?BadBook_kBadSamples ?BadBook_kBadDeed ?BadBook_kHalted ?BadBook_kBadText ?BadBook_kV ?BadBook_noP ?BadBook_noN ?BadBook_noA ?BadBook_noD ?BadBook_noR ?BadBook_ga ?BadBook_gg ?BadBook_hd ?BadBook_ex ?BadBook_ha ?BadBook_hm ?x_hn ?x_ht ?o0_x ?o0_sa ?o0_iC ?o0_tC ?o0_kC ?o0_tyC ?o0_sup ?o0_subV ?o0_subE ?o0_any ?o0_main ?o0_fn ?o0_cd ?o0_cell ?o0_code ?o0_vs ?o0_file ?o0_no0 ?o1_x ?o1_sa ?o1_iC ?o1_tC ?o1_kC ?o1_tyC ?o1_sup ?o1_subV ?o1_subE ?o1_any ?o1_main ?o1_fn ?o1_cd ?o1_cell ?o1_code ?o1_vs ?o1_file ?o1_no0 ?o1_no1 ?l_code ?l_vs ?l_v11 ?l_v18 ?l_v7 ?l_v9 ?l_v10 ?l_ne ?l_no ?c_empty ?gSIZES ?sz_l ?sz_k ?sz_o ?sz_v ?gFOLL ?fo_l ?fo_k ?fo_o ?fo_v ?f0_l ?f0_z ?f0_r ?f1_l ?f1_z ?f1_r ?f2_l ?f2_z ?f2_r ?f3_l ?f3_z ?f3_r
    (case a_law => k_is); (case z_len => k_is); (case z_range => k_is); (case z_tuple => k_is); (case z_list => k_is); (case z_isinstance => k_is)
    (case z_str => k_is); (case z_all => k_is); (case z_enumerate => k_is); (case z_sorted => k_is); (case z_bool => k_is); (case c_small => k_is)
    (case c_caps => k_is); (case c_edge => k_is); (case c_mrul => k_is); (case c_lexc => k_is); (case c_lrs => k_is); (case c_lso => k_is)
    (case c_imost_exceptions => k_is); (case c_ino_book => k_is); (case c_iletters => k_is); (case c_irules => k_is); (case c_iexceptions => k_is); (case z_super => k_is)
    (case z_ValueError => k_is); (case gSayError => k_is); (case gBadBook => k_is); (case gBadWord => k_is); (case gBadSounds => k_is); (case gBadCount => k_is)
    (case gUnsaid => k_is); (case gNoLetter => k_is); (case gNoException => k_is); (case gOtherLetters => k_is); (case gBadSamples => k_is); (case gBadDeed => k_is)
    (case gHalted => k_is); (case gBadText => k_is); (case c_empty => k_is); (case gSIZES => k_is); (case gFOLL => k_is); (case a36 => k_is)
    (case l36 => k_is); (case c36 => k_is); (case k36 => k_is); (case a37 => k_is); (case l37 => k_is); (case c37 => k_is)
    (case k37 => k_is); (case a32 => k_is); (case l32 => k_is); (case c32 => k_is); (case k32 => k_is); (case a31 => k_is)
    (case l31 => k_is); (case c31 => k_is); (case k31 => k_is); (case a34 => k_is); (case l34 => k_is); (case c34 => k_is)
    (case k34 => k_is); (case a35 => k_is); (case l35 => k_is); (case c35 => k_is); (case k35 => k_is); (case a33 => k_is)
    (case l33 => k_is); (case c33 => k_is); (case k33 => k_is); (case a28 => k_is); (case l28 => k_is); (case c28 => k_is)
    (case k28 => k_is); (case a29 => k_is); (case l29 => k_is); (case c29 => k_is); (case k29 => k_is); (case a30 => k_is)
    (case l30 => k_is); (case c30 => k_is); (case k30 => k_is); (case a27 => k_is); (case l27 => k_is); (case c27 => k_is)
    (case k27 => k_is); (case a47 => k_is); (case l47 => k_is); (case c47 => k_is); (case k47 => k_is); (case a48 => k_is)
    (case l48 => k_is); (case c48 => k_is); (case k48 => k_is); (case a42 => k_is); (case l42 => k_is); (case c42 => k_is)
    (case k42 => k_is); (case a45 => k_is); (case l45 => k_is); (case c45 => k_is); (case k45 => k_is); (case a44 => k_is)
    (case l44 => k_is); (case c44 => k_is); (case k44 => k_is); (case a46 => k_is); (case l46 => k_is); (case c46 => k_is)
    (case k46 => k_is); (case a43 => k_is); (case l43 => k_is); (case c43 => k_is); (case k43 => k_is); (case a50 => k_is)
    (case l50 => k_is); (case c50 => k_is); (case k50 => k_is); (case a51 => k_is); (case l51 => k_is); (case c51 => k_is)
    (case k51 => k_is); (case a52 => k_is); (case l52 => k_is); (case c52 => k_is); (case k52 => k_is); (case a53 => k_is)
    (case l53 => k_is); (case c53 => k_is); (case k53 => k_is); (case a54 => k_is); (case l54 => k_is); (case c54 => k_is)
    (case k54 => k_is); (case a55 => k_is); (case l55 => k_is); (case c55 => k_is); (case k55 => k_is); (case a56 => k_is)
    (case l56 => k_is); (case c56 => k_is); (case k56 => k_is); (case a57 => k_is); (case l57 => k_is); (case c57 => k_is)
    (case k57 => k_is); (case a58 => k_is); (case l58 => k_is); (case c58 => k_is); (case k58 => k_is); (case a59 => k_is)
    (case l59 => k_is); (case c59 => k_is); (case k59 => k_is); (case a60 => k_is); (case l60 => k_is); (case c60 => k_is)
    (case k60 => k_is); (case a61 => k_is); (case l61 => k_is); (case c61 => k_is); (case k61 => k_is); (case a62 => k_is)
    (case l62 => k_is); (case c62 => k_is); (case k62 => k_is); (case l_law => k_is); (case c_law => k_is); (case k_law => k_is)
    (case eS1 => k_is); (case eS2 => k_is); (case eS3 => k_is); (case BadText_e4 => k_is); (case BadText_kBadBook => kit_is); (case BadText_kBadWord => kit_is)
    (case BadText_kBadSounds => kit_is); (case BadText_kBadCount => kit_is); (case BadText_kUnsaid => kit_is); (case BadText_kNoLetter => kit_is); (case BadText_kNoException => kit_is); (case BadText_kOtherLetters => kit_is)
    (case BadText_kBadSamples => kit_is); (case BadText_kBadDeed => kit_is); (case BadText_kHalted => kit_is); (case BadText_kBadText => kit_is); (case BadText_kV => kit_is); (case BadText_noP => k_is)
    (case BadText_noN => k_is); (case BadText_noA => k_is); (case BadText_noD => k_is); (case BadText_noR => k_is); (case BadText_ga => k_is); (case BadText_gg => k_is)
    (case BadText_hd => k_is); (case BadText_ex => k_is); (case BadText_ha => k_is); (case BadText_hm => k_is); (case BadBook_e4 => k_is); (case BadBook_kBadBook => kit_is)
    (case BadBook_kBadWord => kit_is); (case BadBook_kBadSounds => kit_is); (case BadBook_kBadCount => kit_is); (case BadBook_kUnsaid => kit_is); (case BadBook_kNoLetter => kit_is); (case BadBook_kNoException => kit_is)
    (case BadBook_kOtherLetters => kit_is); (case BadBook_kBadSamples => kit_is); (case BadBook_kBadDeed => kit_is); (case BadBook_kHalted => kit_is); (case BadBook_kBadText => kit_is); (case BadBook_kV => kit_is)
    (case BadBook_noP => k_is); (case BadBook_noN => k_is); (case BadBook_noA => k_is); (case BadBook_noD => k_is); (case BadBook_noR => k_is); (case BadBook_ga => k_is)
    (case BadBook_gg => k_is); (case BadBook_hd => k_is); (case BadBook_ex => k_is); (case BadBook_ha => k_is); (case BadBook_hm => k_is); (case x_hn => k_is)
    (case x_ht => k_is); (case o0_x => k_is); (case o0_sa => k_is); (case o0_iC => k_is); (case o0_tC => k_is); (case o0_kC => k_is)
    (case o0_tyC => k_is); (case o0_sup => ks_is); (case o0_subV => k_is); (case o0_subE => k_is); (case o0_any => k_is); (case o0_main => decide +kernel)
    (case o0_fn => k_is); (case o0_cd => k_is); (case o0_cell => k_is); (case o0_code => k_is); (case o0_vs => rfl); (case o0_file => decide +kernel)
    (case o0_no0 => k_is); (case o1_x => k_is); (case o1_sa => k_is); (case o1_iC => k_is); (case o1_tC => k_is); (case o1_kC => k_is)
    (case o1_tyC => k_is); (case o1_sup => ks_is); (case o1_subV => k_is); (case o1_subE => k_is); (case o1_any => k_is); (case o1_main => decide +kernel)
    (case o1_fn => k_is); (case o1_cd => k_is); (case o1_cell => k_is); (case o1_code => k_is); (case o1_vs => rfl); (case o1_file => decide +kernel)
    (case o1_no0 => k_is); (case o1_no1 => k_is); (case l_code => k_is); (case l_vs => rfl); (case l_v11 => rfl); (case l_v18 => rfl)
    (case l_v7 => rfl); (case l_v9 => rfl); (case l_v10 => rfl); (case l_ne => decide +kernel); (case l_no => kernel_rfl); (case sz_l => k_is)
    (case sz_k => k_keys); (case sz_o => kernel_rfl); (case sz_v => exact .cons ⟨⟨_, rfl⟩, ⟨_, rfl⟩⟩ (.cons ⟨⟨_, rfl⟩, ⟨_, rfl⟩⟩ (.cons ⟨⟨_, rfl⟩, ⟨_, rfl⟩⟩ .nil))); (case fo_l => k_is); (case fo_k => k_keys); (case fo_o => kernel_rfl)
    (case fo_v => exact .cons ⟨⟨_, rfl⟩, rfl⟩ (.cons ⟨⟨_, rfl⟩, rfl⟩ (.cons ⟨⟨_, rfl⟩, rfl⟩ (.cons ⟨⟨_, rfl⟩, rfl⟩ .nil)))); (case f0_l => k_is); (case f0_z => decide +kernel); (case f0_r => exact .cons ⟨_, rfl⟩ .nil); (case f1_l => k_is); (case f1_z => decide +kernel)
    (case f1_r => exact .cons ⟨_, rfl⟩ (.cons ⟨_, rfl⟩ .nil)); (case f2_l => k_is); (case f2_z => decide +kernel); (case f2_r => exact .cons ⟨_, rfl⟩ (.cons ⟨_, rfl⟩ .nil)); (case f3_l => k_is); (case f3_z => decide +kernel)
    (case f3_r => exact .cons ⟨_, rfl⟩ .nil)
