import PyProof.Rows.All
import Wide.All
import OpenK.AllK
import Wide.FinOn
import HandS.ForMost
import HandS.IsInst
import HandS.Walk
import HandS.SortRule
import HandS.DictTup
import HandS.ListItems
import HandS.Conv
import HandS.More
import KE.GoesEnum
import KE.GoesMore
import PySem.Challenge.RW_saylore_k17_samples_blamed
set_option Elab.async false
set_option linter.all false
set_option maxRecDepth 100000
set_option maxHeartbeats 16000000
namespace Say
open PySem PySem.Spec PyProof.Rows L2
/-! ### the text by places -/
def topS (i : Nat) : Stmt := PySem.Challenge.pw_saylore_k17_samples_blamed.main.body.getD i (.Pass ⟨0, 0, 0, 0⟩)
/-! ### texts as lists of signs -/
abbrev T (l : List Nat) : Str := ⟨l.toArray⟩
theorem T_list (z : Str) : T z.cps.toList = z := by
  cases z; rfl
@[simp] theorem T_cps (l : List Nat) : (T l).cps.toList = l := rfl
theorem T_len (l : List Nat) : (T l).length = l.length := by
  show l.toArray.size = l.length
  simp
theorem T_inj {a b : List Nat} (h : T a = T b) : a = b := by
  have := congrArg (fun z : Str => z.cps.toList) h
  exact this
/-! ### heaps -/
/-- all that was tracked is as it was, but at r -/
def Stp (r : Addr) (H H' : Hp) : Prop := ∀ b o, H b = some o → b ≠ r → H' b = some o
theorem Stp.refl (r : Addr) (H : Hp) : Stp r H H := fun _ _ h _ => h
theorem Stp.trans {r : Addr} {H H1 H2 : Hp} (a : Stp r H H1) (b : Stp r H1 H2) : Stp r H H2 := fun c o h n => b c o (a c o h n) n
theorem Stp.of {r : Addr} {H H' : Hp} (e : Same H H') : Stp r H H' := fun b o h _ => e b o h
theorem Stp.seq {K : PySem.W.Frag} {r a : Addr} {H H' : Hp} {xs : List V} (e : Stp r H H') (n : a ≠ r) (h : SqL K H a xs) : SqL K H' a xs := by
  rcases h with (h | ⟨o, h⟩) | h
  · exact .inl (.inl (e _ _ h n))
  · exact .inl (.inr ⟨o, e _ _ h n⟩)
  · exact .inr h
theorem same_new {H : Hp} {p : Addr} (h : H p = none) (o : HO) : Same H (upd H p o) := fun b u q => by rw [upd_ne (ne_of_none q h)]; exact q
theorem stp_at {r : Addr} {H : Hp} (o : HO) : Stp r H (upd H r o) := fun b u q n => by rw [upd_ne n]; exact q
/-- tuples stay -/
def KT (H H' : Hp) : Prop := ∀ t xs, H t = some (.tup xs) → H' t = some (.tup xs)
theorem KT.refl (H : Hp) : KT H H := fun _ _ h => h
theorem KT.trans {H H1 H2 : Hp} (a : KT H H1) (b : KT H1 H2) : KT H H2 := fun t xs h => b t xs (a t xs h)
theorem KT.of {H H' : Hp} (e : Same H H') : KT H H' := fun t xs h => e t _ h
/-- the row that is drawn from: the script at a -/
structure RowAt (K : PySem.W.Frag) (H : Hp) (r a : Addr) (ns : List Int) : Prop where
  row : ∃ i c m : Int, H r = some (.lst [.ref a, .int i, .int c, .int m]) ∧ 0 ≤ i ∧ 0 ≤ m ∧ m < 2147483647
  scr : SqL K H a (ns.map V.int)
  le : ns.length ≤ 63
theorem ints_ne {ns : List Int} {a : Addr} {l : List V} : ns.map V.int ≠ V.ref a :: l := by
  cases ns with
  | nil => intro z; cases z
  | cons x r => intro z; cases z
theorem Stp.scr {K : PySem.W.Frag} {r a : Addr} {H H' : Hp} {ns : List Int} {l : List V} (e : Stp r H H') (hr : H r = some (.lst (.ref a :: l))) (h : SqL K H a (ns.map V.int)) : SqL K H' a (ns.map V.int) := by
  rcases h with (h | ⟨o, h⟩) | h
  · refine .inl (.inl (e _ _ h fun z => ?_))
    subst z
    rw [hr] at h
    exact ints_ne (HO.lst.inj (Option.some.inj h)).symm
  · refine .inl (.inr ⟨o, e _ _ h fun z => ?_⟩)
    subst z
    rw [hr] at h
    cases h
  · exact .inr h
theorem RowAt.stp {K : PySem.W.Frag} {H H' : Hp} {r a : Addr} {ns : List Int} (R : RowAt K H r a ns) (e : Same H H') : RowAt K H' r a ns := by
  obtain ⟨⟨i, c, m, h, q⟩, s, l⟩ := R
  exact ⟨⟨i, c, m, e _ _ h, q⟩, e.seq s, l⟩
theorem RowAt.kt {K : PySem.W.Frag} {H H' : Hp} {r a : Addr} {ns : List Int} (R : RowAt K H r a ns) (e : Stp r H H') : KT H H' := fun t xs h => by
  obtain ⟨⟨i, c, m, q, _⟩, _⟩ := R
  exact e t _ h (ne_of h q (by intro z; cases z))
theorem RowAt.put {K : PySem.W.Frag} {H : Hp} {r a : Addr} {ns : List Int} (R : RowAt K H r a ns) {i c m : Int} (h0 : 0 ≤ i) (h1 : 0 ≤ m) (h2 : m < 2147483647) : RowAt K (upd H r (.lst [.ref a, .int i, .int c, .int m])) r a ns := by
  obtain ⟨⟨i', c', m', q, _⟩, s, l⟩ := R
  exact ⟨⟨i, c, m, upd_same, h0, h1, h2⟩, (stp_at _).scr q s, l⟩
theorem small {n : Nat} (h : n ≤ 1000) : n ≤ sizeLine := Nat.le_of_lt (small1000 h)
/-- law's promise -/
def spLaw (K : PySem.W.Frag) : Sp := fun vs H Q _ => ∃ (a : Addr) (ns : List Int), vs = [.ref a] ∧ SqL K H a (ns.map V.int) ∧ ns.length ≤ 63 ∧ ∀ H', Q (.bl true) H'
/-- _law_taken -/
def spTaken (K : PySem.W.Frag) : Sp := fun vs H Q _ => ∃ (r a : Addr) (ns : List Int) (n : Int), vs = [.ref r, .int n] ∧ RowAt K H r a ns ∧ 0 < n ∧ n < 1000 ∧
  ∀ (k : Int) (H' : Hp), 0 ≤ k → k < n → Stp r H H' → RowAt K H' r a ns → Q (.int k) H'
end Say
namespace Say
open PySem PySem.Spec PyProof.Rows L2
theorem T_app (a b : List Nat) : T a ++ T b = T (a ++ b) := TL.ext_tl (by rw [TL.tl_append])
theorem hash_eq : ("#" : Str) = T [35] := by decide +kernel
theorem nil_eq : ("" : Str) = T [] := by decide +kernel
theorem joinL_nil : ∀ ls : List (List Nat), TL.joinL [] ls = ls.flatten
  | [] => rfl
  | [p] => by simp [TL.joinL]
  | p :: q :: r => by
    show p ++ ([] ++ TL.joinL [] (q :: r)) = _
    rw [joinL_nil (q :: r)]
    simp
theorem join_nil (ls : List (List Nat)) : Txt.join (T []) (ls.map T) = T ls.flatten := by
  refine TL.ext_tl ?_
  rw [TL.join_eq, TL.tl_join]
  show TL.joinL [] ((ls.map T).map TL.tl) = ls.flatten
  rw [List.map_map, ← joinL_nil]
  congr 1
  exact List.map_id' ls
theorem map_single : ∀ l : List Nat, (l.map fun c => [c]).flatten = l
  | [] => rfl
  | c :: r => by
    show [c] ++ (r.map fun c => [c]).flatten = c :: r
    rw [map_single r]; rfl
/-- the row's own list -/
def RowIn (H : Hp) (r a : Addr) : Prop := ∃ i c m : Int, H r = some (.lst [.ref a, .int i, .int c, .int m]) ∧ 0 ≤ i ∧ 0 ≤ m ∧ m < 2147483647
theorem RowAt.in {K : PySem.W.Frag} {H : Hp} {r a : Addr} {ns : List Int} (R : RowAt K H r a ns) : RowIn H r a := R.row
theorem RowAt.of {K : PySem.W.Frag} {H H' : Hp} {r a : Addr} {ns : List Int} (R : RowAt K H r a ns) (e : Stp r H H') (w : RowIn H' r a) : RowAt K H' r a ns := by
  obtain ⟨⟨i, c, m, q, _⟩, s, l⟩ := R
  exact ⟨w, e.scr q s, l⟩
theorem RowIn.upd {H : Hp} {r a D : Addr} {o : HO} (w : RowIn H r a) (n : r ≠ D) : RowIn (upd H D o) r a := by
  obtain ⟨i, c, m, q, b⟩ := w
  exact ⟨i, c, m, by rw [upd_ne n]; exact q, b⟩
theorem RowAt.nw {K : PySem.W.Frag} {H : Hp} {r a D : Addr} {ns : List Int} (R : RowAt K H r a ns) (h : H D = none) : r ≠ D := by
  obtain ⟨⟨i, c, m, q, _⟩, s, l⟩ := R
  exact ne_of_none q h
theorem Stp.put {r D : Addr} {H H' : Hp} (e : Stp r H H') (h : H D = none) (o : HO) : Stp r H (upd H' D o) := fun b u q n => by
  rw [upd_ne (ne_of_none q h)]
  exact e b u q n
theorem Stp.one {r D : Addr} {H H' : Hp} {o : HO} (e : Stp r H H') (h : H D = some o) (n : r ≠ D) : H' D = some o := e _ _ h (Ne.symm n)
/-- signs of a text, a list of one-sign texts -/
def sg (l : List Nat) : List V := l.map fun c => V.str (T [c])
theorem sg_map (l : List Nat) : sg l = ((l.map fun c => [c]).map T).map V.str := by
  unfold sg
  rw [List.map_map, List.map_map]
  rfl
theorem sg_len (l : List Nat) : (sg l).length = l.length := by unfold sg; rw [List.length_map]
theorem sum_ones : ∀ l : List Nat, (((l.map fun c => [c]).map T).map (fun z : Str => z.length)).sum = l.length
  | [] => rfl
  | c :: r => by
    show 1 + (((r.map fun c => [c]).map T).map (fun z : Str => z.length)).sum = r.length + 1
    rw [sum_ones r]; omega
end Say
namespace Say
open PySem PySem.Spec PyProof.Rows L2
/-- a def that stands at the module's name and keeps its promise -/
def Df (P : Program) (w : World) (K : PySem.W.Frag) (mg : Str → Option Value) (base : Heap) (x : Str) (ps : List Str) (k : Nat) (sp : Sp) : Prop :=
  ∃ f fd, FnOk P w K mg base CX0 k f fd ps sp ∧ PySem.W.keepIn K (.ref f) = true ∧ Binds K fd ps [] ∧ mg x = some (.ref f)
theorem hash_app (L : List Nat) : (Str.ofString "#" ++ T L) = T (35 :: L) := by
  rw [show Str.ofString "#" = T [35] from hash_eq, T_app]
  rfl
theorem app_hash (L : List Nat) : (T L ++ Str.ofString "#") = T (L ++ [35]) := by
  rw [show Str.ofString "#" = T [35] from hash_eq, T_app]
theorem T_at {l : List Nat} {i c : Nat} (h : (T l).cps[i]? = some c) : l[i]? = some c := by
  have h : l.toArray[i]? = some c := h
  rw [List.getElem?_toArray] at h
  exact h
theorem T_at' {l : List Nat} {i c : Nat} (h : l[i]? = some c) : (T l).cps[i]? = some c := by
  show l.toArray[i]? = some c
  rw [List.getElem?_toArray]
  exact h
theorem T_size (l : List Nat) : (T l).cps.size = l.length := by
  show l.toArray.size = _
  simp
theorem take_next {l : List Nat} {i c : Nat} (h : l[i]? = some c) : l.take (i + 1) = l.take i ++ [c] := by
  rw [List.take_add_one, h]; rfl
theorem sg_app (a : List Nat) (c : Nat) : sg a ++ [V.str (T [c])] = sg (a ++ [c]) := by
  unfold sg
  rw [List.map_append]
  rfl
theorem len_hash : (Str.ofString "#").length = 1 := by decide +kernel
end Say
namespace Say
open PySem PySem.Spec PyProof.Rows L2
theorem at_list {α : Type} {l : List α} {z : Int} (h : z.toNat < l.length) (h0 : 0 ≤ z) : atI l z = some l[z.toNat] := by
  have q : l[z.toNat]? = some l[z.toNat] := List.getElem?_eq_getElem h
  have := atI_nat q
  rwa [show ((z.toNat : Nat) : Int) = z by omega] at this
end Say
namespace Say
open PySem PySem.Spec PyProof.Rows L2
/-! ### the data -/
structure Rule where
  ah : List Nat
  ow : List Nat
  be : List Nat
  so : List Nat
def Rule.vs (ρ : Rule) : List V := [.str (T ρ.ah), .str (T ρ.ow), .str (T ρ.be), .str (T ρ.so)]
/-- a rule of a book of the letters L -/
structure RuleOk (L : List Nat) (ρ : Rule) : Prop where
  ah : ρ.ah.Sublist (35 :: L)
  ow : ∀ c ∈ ρ.ow, c ∈ L
  o1 : 1 ≤ ρ.ow.length
  o2 : ρ.ow.length ≤ 2
  be : ρ.be.Sublist (35 :: L)
  so : ∀ c ∈ ρ.so, 65 ≤ c ∧ c ≤ 90
  s3 : ρ.so.length ≤ 3
/-- the tuple at R holds the rules -/
def RulesAt (H : Hp) (R : Addr) (rs : List Rule) : Prop := ∃ ts : List Addr, H R = some (.tup (ts.map V.ref)) ∧ Paired (fun t ρ => H t = some (.tup (Rule.vs ρ))) ts rs
theorem paired_mono {α β : Type} {F G : α → β → Prop} (h : ∀ x y, F x y → G x y) : ∀ {xs : List α} {ys : List β}, Paired F xs ys → Paired G xs ys
  | _, _, .nil => .nil
  | _, _, .cons a b => .cons (h _ _ a) (paired_mono h b)
theorem paired_app {α β : Type} {F : α → β → Prop} : ∀ {xs : List α} {ys : List β} {xs' : List α} {ys' : List β}, Paired F xs ys → Paired F xs' ys' → Paired F (xs ++ xs') (ys ++ ys')
  | _, _, _, _, .nil, h => h
  | _, _, _, _, .cons a b, h => .cons a (paired_app b h)
theorem paired_len {α β : Type} {F : α → β → Prop} : ∀ {xs : List α} {ys : List β}, Paired F xs ys → xs.length = ys.length
  | _, _, .nil => rfl
  | _, _, .cons a b => by simp [paired_len b]
theorem paired_at {α β : Type} {F : α → β → Prop} : ∀ {xs : List α} {ys : List β}, Paired F xs ys → ∀ {i : Nat} {x : α}, xs[i]? = some x → ∃ y, ys[i]? = some y ∧ F x y
  | _, _, .nil, i, x, h => by cases h
  | _, _, .cons r t, 0, x, h => by
    have e := Option.some.inj h
    subst e
    exact ⟨_, rfl, r⟩
  | _, _, .cons r t, i + 1, x, h => paired_at t h
theorem paired_at' {α β : Type} {F : α → β → Prop} : ∀ {xs : List α} {ys : List β}, Paired F xs ys → ∀ {i : Nat} {y : β}, ys[i]? = some y → ∃ x, xs[i]? = some x ∧ F x y
  | _, _, .nil, i, x, h => by cases h
  | _, _, .cons r t, 0, x, h => by
    have e := Option.some.inj h
    subst e
    exact ⟨_, rfl, r⟩
  | _, _, .cons r t, i + 1, x, h => paired_at' t h
theorem RulesAt.kt {H H' : Hp} {R : Addr} {rs : List Rule} (h : RulesAt H R rs) (e : KT H H') : RulesAt H' R rs := by
  obtain ⟨ts, h1, h2⟩ := h
  exact ⟨ts, e _ _ h1, paired_mono (fun t ρ q => e _ _ q) h2⟩
theorem Stp.kt {r a : Addr} {H H' : Hp} (e : Stp r H H') (w : RowIn H r a) : KT H H' := fun t xs h => by
  obtain ⟨i, c, m, q, _⟩ := w
  exact e t _ h (ne_of h q (by intro z; cases z))
theorem kt_new {H : Hp} {D : Addr} {o : HO} (h : H D = none) : KT H (upd H D o) := KT.of (same_new h o)
theorem kt_upd {H : Hp} {D : Addr} {l : List V} {o : HO} (h : H D = some (.lst l)) : KT H (upd H D o) := fun t xs q => by
  rw [upd_ne (ne_of q h (by intro z; cases z))]
  exact q
end Say
namespace Say
open PySem PySem.Spec PyProof.Rows L2
/-- the built-in names that the text leaves alone -/
structure Bn (mg : Str → Option Value) : Prop where
  len : mg "len" = none
  rng : mg "range" = none
  tup : mg "tuple" = none
  lst : mg "list" = none
  isi : mg "isinstance" = none
  str : mg "str" = none
  all : mg "all" = none
  enu : mg "enumerate" = none
  srt : mg "sorted" = none
  bool : mg "bool" = none
def isText (l S : List Nat) (lo hi : Nat) : Bool := decide (lo ≤ l.length) && (decide (l.length ≤ hi) && l.all fun c => decide (c ∈ S))
theorem isText_of {l S : List Nat} {lo hi : Nat} (h1 : lo ≤ l.length) (h2 : l.length ≤ hi) (h3 : ∀ c ∈ l, c ∈ S) : isText l S lo hi = true := by
  unfold isText
  rw [decide_eq_true h1, decide_eq_true h2]
  simp only [Bool.true_and, List.all_eq_true, decide_eq_true_eq]
  exact h3
/-- each sign is more than the one ahead -/
def rises : List Nat → Bool
  | a :: b :: r => decide (a < b) && rises (b :: r)
  | _ => true
end Say
namespace Say
open PySem PySem.Spec PyProof.Rows L2
theorem atI_of {α : Type} {xs : List α} {z : Int} {j : Nat} {v : α} (h : xs[j]? = some v) (e : z = (j : Int)) : atI xs z = some v := by
  rw [e]
  exact atI_nat h
end Say
namespace Say
open PySem PySem.Spec PyProof.Rows L2
section
variable {P : Program} {w : World} {K : PySem.W.Frag} {mg : Str → Option Value} {base : Heap}
abbrev sIsText : Stmt := topS 21
theorem scIsText : FnScope ["text", "signs", "least", "most", "sign"] ["text", "signs", "least", "most"] (defScope sIsText) := ⟨rfl, rfl, rfl, by decide +kernel, rfl, by decide +kernel, by decide +kernel⟩
def spIsText : Sp := fun vs H Q _ => ∃ (l S : List Nat) (lo hi : Nat), vs = [.str (T l), .str (T S), .int lo, .int hi] ∧ l.length ≤ 100 ∧
  ∀ (H' : Hp), Same H H' → Q (.bl (isText l S lo hi)) H'
theorem ok_isText {f : Addr} {fd : FuncData} (F : Fun K "is_text" "is_text" sIsText f fd) (B : Bn mg) :
    FnOk P w K mg base CX0 1 f fd ["text", "signs", "least", "most"] spIsText := by
  refine F.ok scIsText (fun vs H Q E h => ?_) (fun cdv A outer s H vs Q E hr h => ?_)
  · obtain ⟨l, S, lo, hi, rfl, _⟩ := h
    rfl
  · obtain ⟨l, S, lo, hi, rfl, hz, q⟩ := h
    refine ⟨_, pss_cons (ps_if (PW.pt (pw_or (pt_not (pt_val (pe_callB call_isi (by rfl) B.isi (by decide +kernel) (pa_cons (pv 0) (pa_cons (pe_bltn (v := .ty "str") rfl B.str (by decide +kernel) rfl) pa_nil)))))
          (pw_or1 (pt_not (pt_chain op_le op_le (pv 2) (pe_callB call_len_str (by rfl) B.len PySem.boot_len (pa_cons (pv 0) pa_nil)) (pv 3)))))) (pss_one (ps_ret pe_bl)) pss_nil)
      (pss_one (ps_ret (pe_callB (cr_all rfl) (by rfl) B.all (by decide +kernel) (pa_cons (pe_lc (own := [("sign", 4)]) (g := gName 4) rfl scIsText.nd (pi_str (pv 0))
        (blkOk_by (N := ["text", "signs", "least", "most", "sign"]) (sc := defScope sIsText) (by decide +kernel)) (fun _ _ _ _ _ => pg_name (i := 4) scIsText.nd rfl (.inl rfl))
        (fun _ _ _ _ _ => pts_nil) (fun _ _ _ _ _ => pe_cmpR op_in_sign (pv 4) (pv 1) rfl)) pa_nil)))), ?_⟩
    refine ⟨_, rfl, _, _, .type "str", _, true, rfl, ClsV.ty _, .base (.str _), kit_ty (by decide +kernel), true, rfl, ?_⟩
    refine iteF ?_
    have hlen : (T l).length ≤ sizeLine := by rw [T_len]; exact small (by omega)
    refine ⟨_, rfl, _, rfl, _, rfl, hlen, _, _, rfl, rfl, _, rfl, ?_⟩
    have eT : (lo : Int) ≤ ((T l).length : Int) ↔ lo ≤ l.length := by rw [T_len]; omega
    have eU : ((T l).length : Int) ≤ (hi : Int) ↔ l.length ≤ hi := by rw [T_len]; omega
    refine ite2 (fun c1 => ?_) (fun c1 => ?_)
    · refine ⟨_, rfl, _, _, rfl, rfl, _, rfl, ?_⟩
      have c1' := eT.mp (of_decide_eq_true c1)
      by_cases c2 : ((T l).length : Int) ≤ (hi : Int)
      · rw [decide_eq_true c2]
        have c2' := eU.mp c2
        refine iteF ?_
        refine ⟨_, rfl, T l, rfl, fun D hD => ?_⟩
        refine lc_it (walk_str) (fun i H2 => H2 D = some (.lst (((l.take i).map fun c => decide (c ∈ S)).map V.bl)) ∧ Same H H2) ?_ (fun _ _ _ _ => trivial) ?_ ?_
        · exact ⟨upd_same, same_new hD _⟩
        · rintro i x H2 H2' hi' ⟨e1, e2⟩ ⟨rfl, c, hc, rfl⟩
          have hc := T_at hc
          refine ⟨rfl, ?_⟩
          refine ⟨_, rfl, _, rfl, c, T S, rfl, rfl, _, e1, ?_, ?_, ?_⟩
          · rw [List.length_map, List.length_map, List.length_take]
            exact small1000 (by omega)
          · rw [upd_same, take_next hc, List.map_append, List.map_append]
            rfl
          · exact fun b u q => by
              rw [upd_ne (ne_of_none q hD)]
              exact e2 b u q
        · rintro H2 ⟨e1, e2⟩
          rw [T_size, List.take_length] at e1
          refine ⟨D, _, rfl, .inl (.inl e1), ?_⟩
          have := q H2 e2
          unfold isText at this
          rw [decide_eq_true c1', decide_eq_true c2', Bool.true_and, Bool.true_and] at this
          rw [List.all_map]
          exact this
      · rw [decide_eq_false c2]
        refine iteT ?_
        have := q H (Same.refl H)
        unfold isText at this
        rw [decide_eq_false (fun z => c2 (eU.mpr z)), Bool.false_and, Bool.and_false] at this
        exact this
    · refine ⟨_, rfl, iteT ?_⟩
      have := q H (Same.refl H)
      unfold isText at this
      rw [decide_eq_false (fun z => c1 (decide_eq_true (eT.mpr z))), Bool.false_and] at this
      exact this
end
end Say
namespace Say
open PySem PySem.Spec PyProof.Rows L2
section
variable {P : Program} {w : World} {K : PySem.W.Frag} {mg : Str → Option Value} {base : Heap}
abbrev sRise : Stmt := topS 22
theorem scRise : FnScope ["text", "at"] ["text"] (defScope sRise) := ⟨rfl, rfl, rfl, by decide +kernel, rfl, by decide +kernel, by decide +kernel⟩
/-- the j-th sign against the next, for j below n -/
def risesTo (l : List Nat) (n : Nat) : List Bool := (List.range n).map fun j => decide ((l.getD j 0) < (l.getD (j + 1) 0))
theorem rises_range : ∀ l : List Nat, (risesTo l (l.length - 1)).all id = rises l
  | [] => rfl
  | [_] => rfl
  | a :: b :: r => by
    have ih := rises_range (b :: r)
    show (risesTo (a :: b :: r) (r.length + 1)).all id = (decide (a < b) && rises (b :: r))
    rw [← ih]
    unfold risesTo
    rw [List.range_succ_eq_map, List.map_cons, List.map_map, List.all_cons]
    rfl
theorem risesTo_next (l : List Nat) (n : Nat) : risesTo l (n + 1) = risesTo l n ++ [decide ((l.getD n 0) < (l.getD (n + 1) 0))] := by
  unfold risesTo
  rw [List.range_succ, List.map_append]
  rfl
theorem risesTo_len (l : List Nat) (n : Nat) : (risesTo l n).length = n := by
  unfold risesTo
  rw [List.length_map, List.length_range]
def spRise : Sp := fun vs H Q _ => ∃ (l : List Nat), vs = [.str (T l)] ∧ l.length ≤ 100 ∧ ∀ (H' : Hp), Same H H' → Q (.bl (rises l)) H'
theorem lt_one (a b : Nat) : decide (([a] : List Nat) < [b]) = decide (a < b) := by
  by_cases h : a < b
  · rw [decide_eq_true h, decide_eq_true]
    exact List.Lex.rel h
  · rw [decide_eq_false h, decide_eq_false]
    intro z
    cases z with
    | rel q => exact h q
    | cons q => cases q
theorem ok_rise {f : Addr} {fd : FuncData} (F : Fun K "is_rising" "is_rising" sRise f fd) (B : Bn mg) : FnOk P w K mg base CX0 1 f fd ["text"] spRise := by
  refine F.ok scRise (fun vs H Q E h => ?_) (fun cdv A outer s H vs Q E hr h => ?_)
  · obtain ⟨l, rfl, _⟩ := h
    rfl
  · obtain ⟨l, rfl, hz, q⟩ := h
    have hlen : (T l).length ≤ sizeLine := by rw [T_len]; exact small (by omega)
    refine ⟨_, pss_one (ps_ret (pe_callB (cr_all rfl) (by rfl) B.all (by decide +kernel) (pa_cons (pe_lc (own := [("at", 1)]) (g := gName 1) rfl scRise.nd
        (pi_range2 rfl B.rng (pa_cons pe_int (pa_cons (pe_callB call_len_str (by rfl) B.len PySem.boot_len (pa_cons (pv 0) pa_nil)) pa_nil)))
        (blkOk_by (N := ["text", "at"]) (sc := defScope sRise) (by decide +kernel)) (fun _ _ _ _ _ => pg_name (i := 1) scRise.nd rfl (.inl rfl))
        (fun _ _ _ _ _ => pts_nil) (fun _ _ _ _ _ => pe_cmpR op_lt_str (pe_ix ix_str (pv 0) (pe_op op_sub (pv 1) pe_int) (fun _ _ => rfl)) (pe_ix ix_str (pv 0) (pv 1) (fun _ _ => rfl)) (nomark _))) pa_nil))), ?_⟩
    refine ⟨_, rfl, _, rfl, hlen, 1, _, rfl, ⟨by decide, by decide, by omega, by rw [T_len]; omega⟩, fun D hD => ?_⟩
    refine lc_it (walk_range) (fun i H2 => H2 D = some (.lst ((risesTo l i).map V.bl)) ∧ Same H H2) ?_ (fun _ _ _ _ => trivial) ?_ ?_
    · exact ⟨upd_same, same_new hD _⟩
    · rintro i x H2 H2' hi' ⟨e1, e2⟩ ⟨rfl, rfl⟩
      rw [T_len] at hi'
      have g1 : i < l.length := by omega
      have g2 : i + 1 < l.length := by omega
      refine ⟨rfl, ?_⟩
      have q1 : (T l).cps.toList[i]? = some (l.getD i 0) := by rw [T_cps, List.getD_eq_getElem?_getD, List.getElem?_eq_getElem g1]; rfl
      have q2 : (T l).cps.toList[i + 1]? = some (l.getD (i + 1) 0) := by rw [T_cps, List.getD_eq_getElem?_getD, List.getElem?_eq_getElem g2]; rfl
      refine ⟨_, rfl, _, rfl, _, _, rfl, rfl, T l, 1 + (i : Int) - 1, l.getD i 0, rfl, rfl, hlen, atI_of q1 (by omega), ?_⟩
      refine ⟨_, rfl, _, rfl, T l, 1 + (i : Int), l.getD (i + 1) 0, rfl, rfl, hlen, atI_of q2 (by omega), ?_⟩
      refine ⟨_, _, rfl, rfl, _, e1, ?_, ?_, ?_⟩
      · rw [List.length_map, risesTo_len]
        exact small1000 (by omega)
      · rw [upd_same, risesTo_next, List.map_append]
        show some (HO.lst (_ ++ [V.bl (decide (([l.getD i 0] : List Nat) < [l.getD (i + 1) 0]))])) = _
        rw [lt_one]
        rfl
      · exact fun b u q => by
          rw [upd_ne (ne_of_none q hD)]
          exact e2 b u q
    · rintro H2 ⟨e1, e2⟩
      rw [show (((T l).length : Int) - 1).toNat = l.length - 1 by rw [T_len]; omega] at e1
      refine ⟨D, _, rfl, .inl (.inl e1), ?_⟩
      rw [rises_range]
      exact q H2 e2
end
end Say
namespace Say
open PySem PySem.Spec PyProof.Rows L2
/-- the letters of a book -/
structure LetOk (L : List Nat) : Prop where
  l2 : 2 ≤ L.length
  l4 : L.length ≤ 4
  up : rises L = true
  az : ∀ c ∈ L, 97 ≤ c ∧ c ≤ 122
theorem rises_iff : ∀ l : List Nat, rises l = true ↔ l.Pairwise (· < ·)
  | [] => by simp [rises]
  | [a] => by simp [rises]
  | a :: b :: r => by
    have ih := rises_iff (b :: r)
    show (decide (a < b) && rises (b :: r)) = true ↔ _
    rw [Bool.and_eq_true, ih, List.pairwise_cons (a := a)]
    constructor
    · rintro ⟨h1, h2⟩
      have h1 := of_decide_eq_true h1
      refine ⟨fun x hx => ?_, h2⟩
      rcases List.mem_cons.mp hx with rfl | hx
      · exact h1
      · exact Nat.lt_trans h1 ((List.pairwise_cons.mp h2).1 x hx)
    · rintro ⟨h1, h2⟩
      exact ⟨decide_eq_true (h1 b (List.mem_cons_self ..)), h2⟩
theorem LetOk.hash {L : List Nat} (h : LetOk L) : rises (35 :: L) = true := (rises_iff _).mpr (List.pairwise_cons.mpr ⟨fun c hc => by have := (h.az c hc).1; omega, (rises_iff _).mp h.up⟩)
theorem side_ok {L z : List Nat} (h : LetOk L) (s : z.Sublist (35 :: L)) : (isText z (35 :: L) 0 (L.length + 1) && rises z) = true := by
  rw [Bool.and_eq_true]
  exact ⟨isText_of (Nat.zero_le _) (by have := s.length_le; simpa using this) fun c hc => s.subset hc, (rises_iff _).mpr (((rises_iff _).mp h.hash).sublist s)⟩
/-- a constant that holds a number -/
abbrev KI (mg : Str → Option Value) (x : Str) (n : Int) : Prop := ∃ t, mg x = some (.int n t)
/-- what the module's constants hold -/
structure Cn (mg : Str → Option Value) : Prop where
  small : ∃ t, mg "SMALL" = some (.str "abcdefghijklmnopqrstuvwxyz" t)
  caps : ∃ t, mg "CAPITALS" = some (.str "ABCDEFGHIJKLMNOPQRSTUVWXYZ" t)
  edge : ∃ t, mg "EDGE" = some (.str "#" t)
  mrul : ∃ t, mg "MOST_RULES" = some (.int 12 t)
  lexc : ∃ t, mg "LONGEST_EXCEPTION" = some (.int 8 t)
  lrs : ∃ t, mg "LONGEST_RULE_SOUNDS" = some (.int 3 t)
  lso : ∃ t, mg "LONGEST_SOUNDS" = some (.int 36 t)
def smallL : List Nat := (List.range 26).map (· + 97)
def capsL : List Nat := (List.range 26).map (· + 65)
theorem small_eq : Str.ofString "abcdefghijklmnopqrstuvwxyz" = T smallL := by decide +kernel
theorem caps_eq : Str.ofString "ABCDEFGHIJKLMNOPQRSTUVWXYZ" = T capsL := by decide +kernel
theorem mem_small {c : Nat} (h : 97 ≤ c ∧ c ≤ 122) : c ∈ smallL := List.mem_map.mpr ⟨c - 97, List.mem_range.mpr (by omega), by omega⟩
theorem mem_caps {c : Nat} (h : 65 ≤ c ∧ c ≤ 90) : c ∈ capsL := List.mem_map.mpr ⟨c - 65, List.mem_range.mpr (by omega), by omega⟩
section
variable {P : Program} {w : World} {K : PySem.W.Frag} {mg : Str → Option Value} {base : Heap}
abbrev psIsText : List Str := ["text", "signs", "least", "most"]
abbrev sBeside : Stmt := topS 17
theorem scBeside : FnScope ["letters", "signs"] ["letters", "signs"] (defScope sBeside) := ⟨rfl, rfl, rfl, by decide +kernel, rfl, by decide +kernel, by decide +kernel⟩
def spBeside : Sp := fun vs H Q _ => ∃ (L z : List Nat), vs = [.str (T L), .str (T z)] ∧ L.length ≤ 50 ∧ z.length ≤ 100 ∧ ∀ (H' : Hp), Same H H' → Q (.bl (isText z (35 :: L) 0 (L.length + 1) && rises z)) H'
theorem ok_beside {f : Addr} {fd : FuncData} (F : Fun K "is_beside" "is_beside" sBeside f fd) (B : Bn mg) (C : Cn mg) (DT : Df P w K mg base "is_text" psIsText 1 spIsText) (DR : Df P w K mg base "is_rising" ["text"] 1 spRise) :
    FnOk P w K mg base CX0 2 f fd ["letters", "signs"] spBeside := by
  obtain ⟨fT, fdT, GT, kT, bT, mT⟩ := DT
  obtain ⟨fR, fdR, GR, kR, bR, mR⟩ := DR
  obtain ⟨tE, mE⟩ := C.edge
  refine F.ok scBeside (fun vs H Q E h => ?_) (fun cdv A outer s H vs Q E hr h => ?_)
  · obtain ⟨L, z, rfl, _⟩ := h
    rfl
  · obtain ⟨L, z, rfl, hL, hz, q⟩ := h
    refine ⟨_, pss_one (ps_ret (pe_and (pe_call GT hr (by rfl) mT kT bT .nil pass0 (pa_cons (pv 1) (pa_cons (pe_op op_add_str (pe_glob (v := .str "#") rfl mE ⟨_, rfl⟩) (pv 0)) (pa_cons pe_int (pa_cons (pe_op op_add (pe_callB call_len_str (by rfl) B.len PySem.boot_len (pa_cons (pv 0) pa_nil)) pe_int) pa_nil)))))
        (pe_one (pe_call GR hr (by rfl) mR kR bR .nil pass0 (pa_cons (pv 1) pa_nil))))), ?_⟩
    have hl : (T L).length ≤ sizeLine := by rw [T_len]; exact small (by omega)
    refine ⟨_, rfl, _, rfl, _, _, rfl, rfl, (by rw [len_hash, T_len]; exact small (by omega)), _, rfl, _, rfl, hl, _, _, rfl, rfl, z, 35 :: L, 0, L.length + 1, ?_, hz, fun H1 s1 => ?_⟩
    · rw [hash_app, T_len]
      rfl
    refine ⟨_, rfl, ite2 (fun c => ?_) (fun c => ?_)⟩
    · refine ⟨_, rfl, z, rfl, hz, fun H2 s2 => ?_⟩
      have := q H2 (s1.trans s2)
      rw [c, Bool.true_and] at this
      exact this
    · have := q H1 s1
      rw [Bool.eq_false_iff.mpr c, Bool.false_and] at this
      exact this
abbrev sIsRule : Stmt := topS 16
theorem scIsRule : FnScope ["letters", "rule", "ahead", "own", "behind", "sounds"] ["letters", "rule"] (defScope sIsRule) := ⟨rfl, rfl, rfl, by decide +kernel, rfl, by decide +kernel, by decide +kernel⟩
def spIsRule : Sp := fun vs H Q _ => ∃ (L : List Nat) (t : Addr) (ρ : Rule), vs = [.str (T L), .ref t] ∧ H t = some (.tup ρ.vs) ∧ LetOk L ∧ RuleOk L ρ ∧ ∀ (H' : Hp), Same H H' → Q (.bl true) H'
theorem ok_isRule {f : Addr} {fd : FuncData} (F : Fun K "is_rule" "is_rule" sIsRule f fd) (B : Bn mg) (C : Cn mg) (DT : Df P w K mg base "is_text" psIsText 1 spIsText) (DB : Df P w K mg base "is_beside" ["letters", "signs"] 2 spBeside) :
    FnOk P w K mg base CX0 3 f fd ["letters", "rule"] spIsRule := by
  obtain ⟨fT, fdT, GT, kT, bT, mT⟩ := DT
  obtain ⟨fB, fdB, GB, kB, bB, mB⟩ := DB
  obtain ⟨tC, mC⟩ := C.caps
  obtain ⟨tS, mS⟩ := C.lrs
  refine F.ok scIsRule (fun vs H Q E h => ?_) (fun cdv A outer s H vs Q E hr h => ?_)
  · obtain ⟨L, t, ρ, rfl, _⟩ := h
    rfl
  · obtain ⟨L, t, ρ, rfl, ht, hL, hρ, q⟩ := h
    have hr1 : Room 1 _ := hr.mono (by decide)
    refine ⟨_, pss_cons (ps_if (PW.pt (pw_or (pt_not (pt_val (pe_callB call_isi (by rfl) B.isi (by decide +kernel) (pa_cons (pv 1) (pa_cons (pe_bltn (v := .ty "tuple") rfl B.tup (by decide +kernel) rfl) pa_nil)))))
          (pw_or1 (pt_cmpR op_ne (pe_callB call_len (by rfl) B.len PySem.boot_len (pa_cons (pv 1) pa_nil)) pe_int (nomark _))))) (pss_one (ps_ret pe_bl)) pss_nil)
      (pss_cons (ps_asg (pv 1) (pg_tup (by rfl) (pgs_cons (pg_name (i := 2) scIsRule.nd rfl (.inl rfl)) (pgs_cons (pg_name (i := 3) scIsRule.nd rfl (.inl rfl)) (pgs_cons (pg_name (i := 4) scIsRule.nd rfl (.inl rfl)) (pgs_cons (pg_name (i := 5) scIsRule.nd rfl (.inl rfl)) pgs_nil))))))
      (pss_one (ps_ret (pe_and (pe_call GB hr (by rfl) mB kB bB .nil pass0 (pa_cons (pv 0) (pa_cons (pv 2) pa_nil)))
        (pe_and (pe_call GT hr1 (by rfl) mT kT bT .nil pass0 (pa_cons (pv 3) (pa_cons (pv 0) (pa_cons pe_int (pa_cons pe_int pa_nil)))))
        (pe_and (pe_call GB hr (by rfl) mB kB bB .nil pass0 (pa_cons (pv 0) (pa_cons (pv 4) pa_nil)))
        (pe_one (pe_call GT hr1 (by rfl) mT kT bT .nil pass0 (pa_cons (pv 5) (pa_cons (pe_glob (v := .str "ABCDEFGHIJKLMNOPQRSTUVWXYZ") rfl mC ⟨_, rfl⟩) (pa_cons pe_int (pa_cons (pe_glob (v := .int 3) rfl mS ⟨_, rfl⟩) pa_nil)))))))))))), ?_⟩
    have l5 := hρ.ah.length_le
    have l6 := hρ.be.length_le
    rw [List.length_cons] at l5 l6
    have l4 := hL.l4
    refine ⟨_, rfl, _, _, .type "tuple", _, true, rfl, ClsV.ty _, .base (.tup ht), kit_ty (by decide +kernel), true, rfl, iteF ?_⟩
    refine ⟨_, rfl, _, 4, rfl, .inr ⟨_, .inl (.inl ht), rfl⟩, rfl, _, rfl, iteF ?_⟩
    refine ⟨_, rfl, t, _, rfl, .inl (.inl ht), rfl, _, _, rfl, _, _, rfl, _, _, rfl, _, _, rfl, rfl, ?_⟩
    refine ⟨_, rfl, _, rfl, L, ρ.ah, rfl, by omega, by omega, fun H1 s1 => ?_⟩
    refine ⟨_, rfl, ?_⟩
    rw [side_ok hL hρ.ah]
    refine iteT ?_
    refine ⟨_, rfl, _, rfl, ρ.ow, L, 1, 2, rfl, (by have := hρ.o2; omega), fun H2 s2 => ?_⟩
    refine ⟨_, rfl, ?_⟩
    rw [isText_of hρ.o1 hρ.o2 hρ.ow]
    refine iteT ?_
    refine ⟨_, rfl, _, rfl, L, ρ.be, rfl, by omega, by omega, fun H3 s3 => ?_⟩
    refine ⟨_, rfl, ?_⟩
    rw [side_ok hL hρ.be]
    refine iteT ?_
    refine ⟨_, rfl, ρ.so, capsL, 0, 3, (by rw [caps_eq]; rfl), (by have := hρ.s3; omega), fun H4 s4 => ?_⟩
    rw [isText_of (Nat.zero_le _) hρ.s3 fun c hc => mem_caps (hρ.so c hc)]
    exact q H4 (s1.trans (s2.trans (s3.trans s4)))
end
end Say
namespace PySem
open Sem (wp)
open AutoSeq1 (wpAny_loadPart')
/-- enumerate(tuple): what the making of it meets -/
theorem say_meets_enumT (l : Addr) (o0 : Obj) (items : Array Value) (n : Nat) (clC : o0.cls = .type "tuple") (dtD : o0.data = .seq items n) :
    Meets (Builtin.«enumerate.__new__» ⟨[.type "enumerate", .ref l], []⟩) (fun _ R s => s.heap.get? l = some o0 ∧
      R (.ok (.ret (.ref (s.heap.push { cls := .type "tuple_iterator", data := .fields #[.ref l, .int 0 0] }).objs.size)))
        { s with heap := (s.heap.push { cls := .type "tuple_iterator", data := .fields #[.ref l, .int 0 0] }).push { cls := .type "enumerate", data := .fields #[.none, .bool false, .ref s.heap.objs.size, rawInt 0, .none, .none] } }) :=
  .of_wp fun prog w A R s h => by
    obtain ⟨txP, g, d, tkn, os⟩ := s; obtain ⟨lnT, h⟩ := h
    obtain ⟨oc, od, dt, osl⟩ := o0
    replace clC : oc = .type "tuple" := clC
    replace dtD : dt = .seq items n := dtD
    subst clC dtD
    have hsub := sub_enumerate
    have hL : Heap.IsTuple (Shared.heap ⟨txP, g, d, tkn, os⟩) l items := ⟨_, lnT, rfl, n, rfl⟩
    wp_walk using wpAny_loadPart' lnT
    refine wpAny_stack_any fun sta => wpAny_pure ?_
    split
    · rename_i c _ _ _ _ _
      cases (c == Value.type "enumerate")
      · wp_walk using wpAny_loadPart' lnT, wpAny_pyIter_tuple hL
        exact ⟨_, rfl, h⟩
      · wp_walk using wpAny_loadPart' lnT, wpAny_pyIter_tuple hL
        exact ⟨_, rfl, h⟩
    · wp_walk using wpAny_loadPart' lnT, wpAny_pyIter_tuple hL
      exact ⟨_, rfl, h⟩
section
variable {prog : Program} {w : World} {A : Around} {E : Value → Shared → Prop} {s : Shared}
theorem say_call_enumT {l : Addr} {items : Array Value} {Q : Value → Shared → Prop} (hL : s.heap.IsTuple l items)
    (h : ∀ h', IsEnum h' (s.heap.objs.size + 1) s.heap.objs.size 0 .none → h'.IsTupleIter s.heap.objs.size l 0 → h'.objs.size = s.heap.objs.size + 2 →
      (∀ b o, s.heap.get? b = some o → h'.get? b = some o) → Q (.ref (s.heap.objs.size + 1)) { s with heap := h' }) :
    wpAny (model prog w) A (call (.type "enumerate") [.ref l]) Q E s := by
  obtain ⟨o0, lnT, clC, n, dtD⟩ := hL
  refine callType_new F.called_enumerate (by decide) (F.typeCall_enumerate_1 _) (F.newCall_enumerate_1 _) (fun obj => F.args_object_init_2 obj _) F.entry_enumerate_new
    (say_meets_enumT l o0 items n clC dtD) ⟨lnT, ?_⟩
  have szT : (s.heap.push { cls := .type "tuple_iterator", data := .fields #[.ref l, .int 0 0] }).objs.size = s.heap.objs.size + 1 := Heap.size_push ..
  show _ ∧ _
  rw [szT]
  have hEn : IsEnum ((s.heap.push { cls := .type "tuple_iterator", data := .fields #[.ref l, .int 0 0] }).push
      { cls := .type "enumerate", data := .fields #[.none, .bool false, .ref s.heap.objs.size, rawInt 0, .none, .none] }) (s.heap.objs.size + 1) s.heap.objs.size 0 .none := by
    have := Heap.get?_push_size (s.heap.push { cls := .type "tuple_iterator", data := .fields #[.ref l, .int 0 0] })
      (o := { cls := .type "enumerate", data := .fields #[.none, .bool false, .ref s.heap.objs.size, rawInt 0, .none, .none] }) rfl
    rw [szT] at this; exact this
  refine ⟨⟨_, hEn, rfl⟩, h _ hEn ⟨_, Heap.get?_push_of_some _ (Heap.get?_push_size _ rfl), rfl, rfl⟩ (by rw [Heap.size_push, szT]) fun b o x => Heap.get?_push_of_some _ (Heap.get?_push_of_some _ x)⟩
theorem say_enumT_end {e it l : Addr} {i : Nat} {j : Int} {items : Array Value} {was : Value} {Q : Option Value → Shared → Prop} (noH : A.handled = none)
    (hEn : IsEnum s.heap e it j was) (hTi : s.heap.IsTupleIter it l i) (lnT : s.heap.IsTuple l items) (atI0 : items[i]? = none)
    (hQ : ∀ h', Heap.ExtBut it s.heap h' → Q none { s with heap := h' }) : wpAny (model prog w) A (pyNext (.ref e)) Q E s := by
  have isTup : s.TypeIs (.ref e) "enumerate" := ⟨_, hEn, rfl⟩
  unfold pyNext
  refine wpAny_bind (wpAny_attempt (wpAny_callSpecial?_slot (name := Str.ofString "__next__") isTup F.slot_enumerate_next
    (wpAny_call_entry F.slot_enumerate_next isTup F.entry_enumerate_next ?_ (F.args_enumerate_next_1 _))))
  show wpAny _ _ (field (.ref e) 2 >>= _) _ _ _
  refine wpAny_bind (wpAny_field hEn rfl (x := .ref it) rfl ?_)
  refine wpAny_bind (wpAny_nextOf_tuple_end noH hTi lnT atI0 fun h' x he' hx' => ?_)
  obtain ⟨o, obO, clC⟩ := hx'
  refine wpAny_bind (wpAny_isInstance (T := "StopIteration") (b := true) ⟨o, obO, clC⟩ isSubtype_stop ?_)
  exact wpAny_pure (hQ _ he')
end
end PySem
namespace Say
open PySem PySem.Spec PyProof.Rows L2
/-- the tuple at a adrs it stands at each turn, each item in a new pair -/
def IteT (K : PySem.W.Frag) (a : Addr) : It :=
  ⟨fun i H => ∃ (xs : List V) (x : V), SqT K H a xs ∧ xs[i]? = some x, fun i H v H' => ∃ T x, v = .ref T ∧ H T = none ∧ H' = upd H T (.tup [.int (i : Nat), x]) ∧ ∀ xs, SqT K H a xs → xs[i]? = some x, fun i H => ∃ xs : List V, SqT K H a xs ∧ xs.length ≤ i⟩
theorem enum_ne {h : Heap} {e it a : Addr} {i : Int} {was : Value} {items : Array Value} (hEn : IsEnum h e it i was) (isTup : h.IsTuple a items) : e ≠ a := fun z => by
  subst z
  obtain ⟨o, obO, clC, _⟩ := isTup
  have hEn : h.get? e = some _ := hEn
  rw [hEn] at obO
  cases obO
  exact absurd (Value.type.inj clC) (by decide)
theorem tit_ne {h : Heap} {it a : Addr} {i : Nat} {items : Array Value} (hEn : h.IsTupleIter it a i) (isTup : h.IsTuple a items) : a ≠ it := fun z => by
  subst z
  obtain ⟨o, obO, clC, _⟩ := isTup
  obtain ⟨o', ho', hc', _⟩ := hEn
  rw [obO] at ho'
  cases ho'
  rw [clC] at hc'
  exact absurd (Value.type.inj hc') (by decide)
theorem turn_enumT {P : Program} {w : World} {K : PySem.W.Frag} {els : List Expr} {k9 : Nat} {tps0 : Pos} (a e it : Addr) :
    Turn P w K (.Tuple els k9 tps0) (IteT K a) [e, it] e (fun i h => (∃ was, IsEnum h e it ((i : Nat) : Int) was) ∧ h.IsTupleIter it a i ∧ e ≠ it) where
  mem := by simp
  obj := fun i h sta b hb => by
    obtain ⟨⟨was, hEn⟩, ⟨o, obO, clC, dtD⟩, _⟩ := sta
    have e' : b = e ∨ b = it := by simpa using hb
    rcases e' with z | z
    · rw [z]; exact ⟨_, hEn, fun v q => nomatch q⟩
    · rw [z]; exact ⟨o, obO, fun v q => by rw [dtD] at q; cases q⟩
  keep := fun i h h' sta k => let ⟨⟨was, hEn⟩, hi, hAp⟩ := sta; ⟨⟨was, k e (by simp) _ hEn⟩, hi.at fun o q => k it (by simp) o q, hAp⟩
  item := by
    intro X hP hw hK clC i pn s σ H E I fresh0 sta gW
    subst hP hw hK
    obtain ⟨⟨was, hEn⟩, hTi, hAp⟩ := sta
    obtain ⟨xs, x, isT, atI0⟩ := gW
    obtain ⟨its, rel, p, szT⟩ := I.tuple isT
    have p : s.heap.IsTuple a its.toArray := p
    obtain ⟨u, getU, relU⟩ := rel.get atI0
    have ltE : e < s.heap.objs.size := Heap.lt_size hEn
    have ltI : it < s.heap.objs.size := by obtain ⟨_, q, _⟩ := hTi; exact Heap.lt_size q
    have ltN : i < its.toArray.size := by
      have := (List.getElem?_eq_some_iff.mp getU).1
      simpa using this
    refine wpAny_pyNext_enum_itemD (Draws.tuple (show X.A.in1.handled = none from I.ok.hd clC) it a (tit_ne hTi p) its.toArray) hEn ⟨hTi, p⟩ ltN hAp (by
      simp only [List.mem_cons, List.not_mem_nil, or_false, not_or]
      exact ⟨hAp, enum_ne hEn p⟩) fun u' h' tkn hu' obO hst' isTup szH kpT => ?_
    have eu : u' = u := by
      have h1 : its.toArray[i]? = some u' := hu'
      rw [List.getElem?_toArray, getU] at h1
      exact (Option.some.inj h1).symm
    subst eu
    obtain ⟨hit', p'⟩ := hst'
    refine ⟨_, rfl, wpAny_letOwnedTupleGo_enum (s := { s with heap := h', toks := tkn + 1 }) obO fun h'' he' butE => ?_⟩
    have hT2 : h''.get? s.heap.objs.size = some { cls := .type "tuple", data := .seq #[.int i tkn, u'] } := (butE.2 _ (Nat.ne_of_gt ltE)).trans isTup
    have new : ObjOk X.prog X.w (upd H s.heap.objs.size (.tup [.int (i : Nat), x])) h'' s.heap.objs.size (.tup [.int (i : Nat), x]) :=
      ⟨by show 2 ≤ sizeLine; decide, [.int i tkn, u'], .cons ⟨_, rfl⟩ (.cons relU .nil), ⟨_, hT2, rfl, _, rfl⟩⟩
    have I1 : Inv X pn σ (upd H s.heap.objs.size (.tup [.int (i : Nat), x])) { s with heap := h'', toks := tkn + 1 } :=
      I.turnedNew (ch := [e, it]) (fun b ob hb q => (butE.2 b (fun z => hb (by simp [z]))).trans (kpT b ob (fun z => hb (by simp [z])) (fun z => hb (by simp [z])) q)) fresh0 (Nat.le_refl _) new
    refine ⟨.ref s.heap.objs.size, _, I1, rfl, ⟨_, x, rfl, I.hok.fresh (Nat.le_refl _), rfl, fun ys hy => by rw [I.tuple_inj hy isT]; exact atI0⟩, ⟨⟨u', ?_⟩, hit'.at fun o q => (butE.2 it (Ne.symm hAp)).trans q, hAp⟩, fun b hb => ?_⟩
    · have q1 : ((i + 1 : Nat) : Int) = (i : Int) + 1 := by omega
      rw [q1]; exact he'
    · have hb' : b < s.heap.objs.size := by
        have e' : b = e ∨ b = it := by simpa using hb
        rcases e' with z | z
        · rw [z]; exact ltE
        · rw [z]; exact ltI
      rw [upd_ne (Nat.ne_of_lt hb')]
      exact (fresh0 b hb).1
  done := by
    intro X hP hw hK clC i pn s σ H E I fresh0 sta gW
    subst hP hw hK
    obtain ⟨⟨was, hEn⟩, hTi, hAp⟩ := sta
    obtain ⟨xs, isT, atI0⟩ := gW
    obtain ⟨its, rel, p, szT⟩ := I.tuple isT
    have p : s.heap.IsTuple a its.toArray := p
    obtain ⟨f0, f1, f2, f3, f4, f5⟩ := fresh0 it (by simp)
    have hl := rel.length
    exact say_enumT_end (I.ok.hd clC) hEn hTi p (by rw [List.getElem?_toArray]; exact List.getElem?_eq_none (by omega)) fun h' eb => ⟨rfl, I.turned (t' := s.toks) (fun b o hb q => eb b o hb q) f0 f1 f3 f4 f5⟩
  self := fun A i s Q E sta h => let ⟨⟨_, hEn⟩, _⟩ := sta; wpAny_pyIter_enum hEn h
def iEnumT (K : PySem.W.Frag) (ta : TA) : TI := fun σ H R => ta σ H fun vs H1 => ∃ a xs, vs = [.ref a] ∧ SqT K H1 a xs ∧ R (IteT K a) H1
theorem pi_enumT {X : Cx} {e : Expr} {ta : TA} {p pos tps0 : Pos} {els : List Expr} {k9 : Nat} (gW : Gl X "enumerate") (hm : X.mg "enumerate" = none) (atA : PA X [e] ta) (hs : starEach [e] X.env = [(false, eval e X.env)] := by rfl) :
    PI X (.Tuple els k9 tps0) (.Call (.Name "enumerate" p) [e] [] pos) (iEnumT X.K ta) := by
  refine ⟨fun pn s σ H R I h => ?_⟩
  refine Call_ (ld_blt I gW hm boot_enumerate (PyProof.Rows.callWith_type1 (thn (atA.run pos pn s σ H _ I h) fun args s1 ⟨vs, H1, I1, r1, q1⟩ => ?_) hs rfl))
  obtain ⟨a, xs, ex, isT, q⟩ := q1
  subst ex
  cases r1 with
  | cons r rst =>
    cases rst
    cases r
    obtain ⟨its, rel, p', szT⟩ := I1.tuple isT
    refine say_call_enumT (show s1.heap.IsTuple a its.toArray from p') fun h' hEn hTi szH kpT => wpAny_pyIter_enum hEn ?_
    have I2 : Inv X pn σ H1 { s1 with heap := h' } := I1.kept (t' := s1.toks) kpT
    refine ⟨s1.heap.objs.size + 1, [s1.heap.objs.size + 1, s1.heap.objs.size], _, _, H1, rfl, I2, turn_enumT a (s1.heap.objs.size + 1) s1.heap.objs.size, ⟨⟨.none, hEn⟩, hTi, Nat.succ_ne_self _⟩, fun b hb => ?_, q⟩
    have e' : b = s1.heap.objs.size + 1 ∨ b = s1.heap.objs.size := by simpa using hb
    have hle : s1.heap.objs.size ≤ b := by
      rcases e' with z | z
      · rw [z]; exact Nat.le_add_right _ _
      · rw [z]; exact Nat.le_refl _
    exact I1.fpOk hle (I1.hok.fresh hle)
theorem walk_enumT {K : PySem.W.Frag} {a : Addr} {xs : List V} : Walk (IteT K a) xs.length (fun H => SqT K H a xs) (YPair (fun i => some (.int (i : Nat))) (fun i => xs[i]?)) := by
  refine ⟨fun i _ hi q => ⟨xs, xs[i], q, by simp [hi]⟩, fun _ q => ⟨xs, q, Nat.le_refl _⟩, fun i H v H' _ q y => ?_⟩
  obtain ⟨T, x, h1, h2, h3, h4⟩ := y
  exact ⟨T, .int (i : Nat), x, h1, h2, h3, rfl, h4 xs q⟩
end Say
namespace Say
open PySem PySem.Spec PyProof.Rows L2
abbrev Exc := List Nat × List Nat
/-- an exception of a book of the letters L -/
structure ExcOk (L : List Nat) (e : Exc) : Prop where
  w : ∀ c ∈ e.1, c ∈ L
  w1 : 1 ≤ e.1.length
  w8 : e.1.length ≤ 8
  s : ∀ c ∈ e.2, 65 ≤ c ∧ c ≤ 90
  s36 : e.2.length ≤ 36
def ExcsAt (H : Hp) (X : Addr) (es : List Exc) : Prop := ∃ ts : List Addr, H X = some (.tup (ts.map V.ref)) ∧ Paired (fun t (e : Exc) => H t = some (.tup [.str (T e.1), .str (T e.2)])) ts es
theorem ExcsAt.kt {H H' : Hp} {X : Addr} {es : List Exc} (h : ExcsAt H X es) (e : KT H H') : ExcsAt H' X es := by
  obtain ⟨ts, h1, h2⟩ := h
  exact ⟨ts, e _ _ h1, paired_mono (fun t ρ q => e _ _ q) h2⟩
structure BookOk (L : List Nat) (rs : List Rule) (es : List Exc) : Prop where
  lt : LetOk L
  rl : ∀ ρ ∈ rs, RuleOk L ρ
  r12 : rs.length ≤ 12
  ex : ∀ e ∈ es, ExcOk L e
  e8 : es.length ≤ 8
  up : es.Pairwise fun e f => e.1 < f.1
def BookAt (H : Hp) (b : Addr) (L : List Nat) (rs : List Rule) (es : List Exc) : Prop := ∃ R X, H b = some (.tup [.str (T L), .ref R, .ref X]) ∧ RulesAt H R rs ∧ ExcsAt H X es
theorem BookAt.kt {H H' : Hp} {b : Addr} {L : List Nat} {rs : List Rule} {es : List Exc} (h : BookAt H b L rs es) (e : KT H H') : BookAt H' b L rs es := by
  obtain ⟨R, X, h1, h2, h3⟩ := h
  exact ⟨R, X, e _ _ h1, h2.kt e, h3.kt e⟩
section
variable {P : Program} {w : World} {K : PySem.W.Frag} {mg : Str → Option Value} {base : Heap}
abbrev sExcd : Stmt := topS 19
theorem scExcd : FnScope ["letters", "word"] ["letters", "word"] (defScope sExcd) := ⟨rfl, rfl, rfl, by decide +kernel, rfl, by decide +kernel, by decide +kernel⟩
def spExcd : Sp := fun vs H Q _ => ∃ (L z : List Nat), vs = [.str (T L), .str (T z)] ∧ z.length ≤ 100 ∧ ∀ (H' : Hp), Same H H' → Q (.bl (isText z L 1 8)) H'
theorem ok_excd {f : Addr} {fd : FuncData} (F : Fun K "is_excepted" "is_excepted" sExcd f fd) (C : Cn mg) (DT : Df P w K mg base "is_text" psIsText 1 spIsText) :
    FnOk P w K mg base CX0 2 f fd ["letters", "word"] spExcd := by
  obtain ⟨fT, fdT, GT, kT, bT, mT⟩ := DT
  obtain ⟨tX, mX⟩ := C.lexc
  refine F.ok scExcd (fun vs H Q E h => ?_) (fun cdv A outer s H vs Q E hr h => ?_)
  · obtain ⟨L, z, rfl, _⟩ := h
    rfl
  · obtain ⟨L, z, rfl, hl, q⟩ := h
    refine ⟨_, pss_one (ps_ret (pe_call GT hr (by rfl) mT kT bT .nil pass0 (pa_cons (pv 1) (pa_cons (pv 0) (pa_cons pe_int (pa_cons (pe_glob (v := .int 8) rfl mX ⟨_, rfl⟩) pa_nil)))))), ?_⟩
    exact ⟨_, rfl, _, rfl, z, L, 1, 8, rfl, hl, q⟩
abbrev sIsSo : Stmt := topS 20
theorem scIsSo : FnScope ["sounds"] ["sounds"] (defScope sIsSo) := ⟨rfl, rfl, rfl, by decide +kernel, rfl, by decide +kernel, by decide +kernel⟩
def spIsSo : Sp := fun vs H Q _ => ∃ (z : List Nat), vs = [.str (T z)] ∧ z.length ≤ 100 ∧ ∀ (H' : Hp), Same H H' → Q (.bl (isText z capsL 0 36)) H'
theorem ok_isSo {f : Addr} {fd : FuncData} (F : Fun K "is_sounds" "is_sounds" sIsSo f fd) (C : Cn mg) (DT : Df P w K mg base "is_text" psIsText 1 spIsText) :
    FnOk P w K mg base CX0 2 f fd ["sounds"] spIsSo := by
  obtain ⟨fT, fdT, GT, kT, bT, mT⟩ := DT
  obtain ⟨tC, mC⟩ := C.caps
  obtain ⟨tS, mS⟩ := C.lso
  refine F.ok scIsSo (fun vs H Q E h => ?_) (fun cdv A outer s H vs Q E hr h => ?_)
  · obtain ⟨z, rfl, _⟩ := h
    rfl
  · obtain ⟨z, rfl, hl, q⟩ := h
    refine ⟨_, pss_one (ps_ret (pe_call GT hr (by rfl) mT kT bT .nil pass0 (pa_cons (pv 0) (pa_cons (pe_glob (v := .str "ABCDEFGHIJKLMNOPQRSTUVWXYZ") rfl mC ⟨_, rfl⟩) (pa_cons pe_int (pa_cons (pe_glob (v := .int 36) rfl mS ⟨_, rfl⟩) pa_nil)))))), ?_⟩
    exact ⟨_, rfl, z, capsL, 0, 36, (by rw [caps_eq]; rfl), hl, q⟩
abbrev sIsExc : Stmt := topS 18
theorem scIsExc : FnScope ["letters", "pair", "word", "sounds"] ["letters", "pair"] (defScope sIsExc) := ⟨rfl, rfl, rfl, by decide +kernel, rfl, by decide +kernel, by decide +kernel⟩
def spIsExc : Sp := fun vs H Q _ => ∃ (L : List Nat) (t : Addr) (e : Exc), vs = [.str (T L), .ref t] ∧ H t = some (.tup [.str (T e.1), .str (T e.2)]) ∧ ExcOk L e ∧ ∀ (H' : Hp), Same H H' → Q (.bl true) H'
theorem ok_isExc {f : Addr} {fd : FuncData} (F : Fun K "is_exception" "is_exception" sIsExc f fd) (B : Bn mg) (DX : Df P w K mg base "is_excepted" ["letters", "word"] 2 spExcd) (DS : Df P w K mg base "is_sounds" ["sounds"] 2 spIsSo) :
    FnOk P w K mg base CX0 3 f fd ["letters", "pair"] spIsExc := by
  obtain ⟨fX, fdX, GX, kX, bX, mX⟩ := DX
  obtain ⟨fS, fdS, GS, kS, bS, mS⟩ := DS
  refine F.ok scIsExc (fun vs H Q E h => ?_) (fun cdv A outer s H vs Q E hr h => ?_)
  · obtain ⟨L, t, e, rfl, _⟩ := h
    rfl
  · obtain ⟨L, t, e, rfl, ht, ho, q⟩ := h
    refine ⟨_, pss_cons (ps_if (PW.pt (pw_or (pt_not (pt_val (pe_callB call_isi (by rfl) B.isi (by decide +kernel) (pa_cons (pv 1) (pa_cons (pe_bltn (v := .ty "tuple") rfl B.tup (by decide +kernel) rfl) pa_nil)))))
          (pw_or1 (pt_cmpR op_ne (pe_callB call_len (by rfl) B.len PySem.boot_len (pa_cons (pv 1) pa_nil)) pe_int (nomark _))))) (pss_one (ps_ret pe_bl)) pss_nil)
      (pss_cons (ps_asg (pv 1) (pg_tup (by rfl) (pgs_cons (pg_name (i := 2) scIsExc.nd rfl (.inl rfl)) (pgs_cons (pg_name (i := 3) scIsExc.nd rfl (.inl rfl)) pgs_nil))))
      (pss_one (ps_ret (pe_and (pe_call GX hr (by rfl) mX kX bX .nil pass0 (pa_cons (pv 0) (pa_cons (pv 2) pa_nil)))
        (pe_one (pe_call GS hr (by rfl) mS kS bS .nil pass0 (pa_cons (pv 3) pa_nil))))))), ?_⟩
    refine ⟨_, rfl, _, _, .type "tuple", _, true, rfl, ClsV.ty _, .base (.tup ht), kit_ty (by decide +kernel), true, rfl, iteF ?_⟩
    refine ⟨_, rfl, _, 2, rfl, .inr ⟨_, .inl (.inl ht), rfl⟩, rfl, _, rfl, iteF ?_⟩
    refine ⟨_, rfl, t, _, rfl, .inl (.inl ht), rfl, _, _, rfl, _, _, rfl, rfl, ?_⟩
    refine ⟨_, rfl, _, rfl, L, e.1, rfl, (by have := ho.w8; omega), fun H1 s1 => ?_⟩
    refine ⟨_, rfl, ?_⟩
    rw [isText_of ho.w1 ho.w8 ho.w]
    refine iteT ?_
    refine ⟨_, rfl, e.2, rfl, (by have := ho.s36; omega), fun H4 s4 => ?_⟩
    rw [isText_of (Nat.zero_le _) ho.s36 fun c hc => mem_caps (ho.s c hc)]
    exact q H4 (s1.trans s4)
abbrev sChL : Stmt := topS 14
theorem scChL : FnScope ["letters"] ["letters"] (defScope sChL) := ⟨rfl, rfl, rfl, by decide +kernel, rfl, by decide +kernel, by decide +kernel⟩
def spChL : Sp := fun vs H Q _ => ∃ (L : List Nat), vs = [.str (T L)] ∧ LetOk L ∧ ∀ (H' : Hp), Same H H' → Q .non H'
theorem ok_chL {f : Addr} {fd : FuncData} (F : Fun K "check_letters" "check_letters" sChL f fd) (C : Cn mg) (DT : Df P w K mg base "is_text" psIsText 1 spIsText) (DR : Df P w K mg base "is_rising" ["text"] 1 spRise) :
    FnOk P w K mg base CX0 2 f fd ["letters"] spChL := by
  obtain ⟨fT, fdT, GT, kT, bT, mT⟩ := DT
  obtain ⟨fR, fdR, GR, kR, bR, mR⟩ := DR
  obtain ⟨tS, mS⟩ := C.small
  refine F.ok scChL (fun vs H Q E h => ?_) (fun cdv A outer s H vs Q E hr h => ?_)
  · obtain ⟨L, rfl, _⟩ := h
    rfl
  · obtain ⟨L, rfl, hL, q⟩ := h
    refine ⟨_, pss_one (ps_if (PW.pt (pw_or (pt_not (pt_val (pe_call GT hr (by rfl) mT kT bT .nil pass0 (pa_cons (pv 0) (pa_cons (pe_glob (v := .str "abcdefghijklmnopqrstuvwxyz") rfl mS ⟨_, rfl⟩) (pa_cons pe_int (pa_cons pe_int pa_nil)))))))
        (pw_or1 (pt_not (pt_val (pe_call GR hr (by rfl) mR kR bR .nil pass0 (pa_cons (pv 0) pa_nil))))))) (pss_one ps_never) pss_nil), ?_⟩
    have l4 := hL.l4
    refine ⟨_, rfl, L, smallL, 2, 4, (by rw [small_eq]; rfl), by omega, fun H1 s1 => ?_⟩
    rw [isText_of hL.l2 hL.l4 fun c hc => mem_small (hL.az c hc)]
    refine ⟨true, rfl, iteF ?_⟩
    refine ⟨_, rfl, L, rfl, by omega, fun H2 s2 => ?_⟩
    rw [hL.up]
    refine ⟨true, rfl, iteF ?_⟩
    exact q H2 (s1.trans s2)
abbrev sChR : Stmt := topS 15
theorem scChR : FnScope ["letters", "rules", "number", "rule"] ["letters", "rules"] (defScope sChR) := ⟨rfl, rfl, rfl, by decide +kernel, rfl, by decide +kernel, by decide +kernel⟩
def spChR : Sp := fun vs H Q _ => ∃ (L : List Nat) (R : Addr) (rs : List Rule), vs = [.str (T L), .ref R] ∧ LetOk L ∧ RulesAt H R rs ∧ (∀ ρ ∈ rs, RuleOk L ρ) ∧ rs.length ≤ 12 ∧ ∀ (H' : Hp), Same H H' → Q .non H'
theorem ok_chR {f : Addr} {fd : FuncData} (F : Fun K "check_rules" "check_rules" sChR f fd) (B : Bn mg) (C : Cn mg) (DI : Df P w K mg base "is_rule" ["letters", "rule"] 3 spIsRule) :
    FnOk P w K mg base CX0 4 f fd ["letters", "rules"] spChR := by
  obtain ⟨fI, fdI, GI, kI, bI, mI⟩ := DI
  obtain ⟨tS, mS⟩ := C.mrul
  refine F.ok scChR (fun vs H Q E h => ?_) (fun cdv A outer s H vs Q E hr h => ?_)
  · obtain ⟨L, R, rs, rfl, _⟩ := h
    rfl
  · obtain ⟨L, R, rs, rfl, hL, ⟨ts, hR, hp⟩, ho, h12, q⟩ := h
    refine ⟨_, pss_cons (ps_if (pt_not (pt_val (pe_callB call_isi (by rfl) B.isi (by decide +kernel) (pa_cons (pv 1) (pa_cons (pe_bltn (v := .ty "tuple") rfl B.tup (by decide +kernel) rfl) pa_nil))))) (pss_one ps_never) pss_nil)
      (pss_one (ps_for PassesOwn.never rfl (pi_enumT (by rfl) B.enu (pa_cons (pv 1) pa_nil)) (pg_tup (by rfl) (pgs_cons (pg_name (i := 2) scChR.nd rfl (.inl rfl)) (pgs_cons (pg_name (i := 3) scChR.nd rfl (.inl rfl)) pgs_nil)))
        (pss_one (ps_if (PW.pt (pw_or (pt_cmpR op_eq (pv 2) (pe_glob (v := .int 12) rfl mS ⟨_, rfl⟩) (nomark _)) (pw_or1 (pt_not (pt_val (pe_call GI hr (by rfl) mI kI bI .nil pass0 (pa_cons (pv 0) (pa_cons (pv 3) pa_nil)))))))) (pss_one ps_never) pss_nil)))), ?_⟩
    refine ⟨_, rfl, _, _, .type "tuple", _, true, rfl, ClsV.ty _, .base (.tup hR), kit_ty (by decide +kernel), true, rfl, iteF ?_⟩
    refine ⟨_, rfl, R, _, rfl, .inl (.inl hR), for_it (walk_enumT (xs := ts.map V.ref)) (fun i σ H2 => Same H H2 ∧ ∃ v2 v3, σ = [some (.str (T L)), some (.ref R), v2, v3]) ⟨Same.refl H, _, _, rfl⟩ (fun i σ H2 _ h => .inl (.inl (h.1 _ _ hR))) ?_ ?_⟩
    · rintro i x σ H2 H3 hi ⟨s2, v2, v3, rfl⟩ ⟨t, x1, x2, rfl, ht, rfl, g1, g2⟩
      cases g1
      have g2 : (ts.map V.ref)[i]? = some x2 := g2
      rw [List.getElem?_map] at g2
      obtain ⟨a, ha, e⟩ := Option.map_eq_some_iff.mp g2
      subst e
      obtain ⟨ρ, hρ, hat⟩ := paired_at hp ha
      have sm := same_new ht (.tup [.int (i : Nat), .ref a])
      have hi2 : i < rs.length := (List.getElem?_eq_some_iff.mp hρ).1
      refine ⟨t, _, rfl, .inl (.inl upd_same), rfl, _, _, rfl, _, _, rfl, rfl, ?_⟩
      refine ⟨_, rfl, rfl, _, rfl, ?_⟩
      have nq : ¬ V.int ((i : Nat) : Int) = V.int 12 := fun z => by
        have := V.int.inj z
        omega
      rw [decide_eq_false nq]
      refine iteF ?_
      refine ⟨_, rfl, _, rfl, L, a, ρ, rfl, sm _ _ (s2 _ _ hat), hL, ho ρ (List.mem_of_getElem? hρ), fun H4 s4 => ?_⟩
      exact ⟨true, rfl, iteF ⟨s2.trans (sm.trans s4), _, _, rfl⟩⟩
    · rintro σ H2 ⟨s2, v2, v3, rfl⟩
      exact q H2 s2
end
end Say
namespace Say
open PySem PySem.Spec PyProof.Rows L2
/-- does the rule fit at the place of the signs -/
def fitsL (ρ : Rule) (z : List Nat) (i : Nat) : Bool :=
  if (z.drop i).take ρ.ow.length = ρ.ow then (decide (ρ.ah = []) || decide (z.getD (i - 1) 0 ∈ ρ.ah)) && (decide (ρ.be = []) || decide (z.getD (i + ρ.ow.length) 0 ∈ ρ.be)) else false
/-- a word between its edges -/
def sgn (wd : List Nat) : List Nat := 35 :: (wd ++ [35])
theorem sgn_len (wd : List Nat) : (sgn wd).length = wd.length + 2 := by simp [sgn]
theorem sgn_last (wd : List Nat) : (sgn wd)[wd.length + 1]? = some 35 := by
  unfold sgn
  rw [List.getElem?_cons_succ, List.getElem?_append_right (Nat.le_refl _), Nat.sub_self]
  rfl
theorem cut_at {z : List Nat} {i n : Nat} (h : i ≤ z.length) : cutS (T z) (some (i : Int)) (some ((i + n : Nat) : Int)) = T ((z.drop i).take n) := by
  unfold cutS
  rw [T_len, HT.sIx_nat, HT.sIx_nat, Nat.min_eq_left h]
  show T ((z.drop i).take (min (i + n) z.length - i)) = _
  congr 1
  by_cases c : i + n ≤ z.length
  · rw [Nat.min_eq_left c, Nat.add_sub_cancel_left]
  · rw [Nat.min_eq_right (by omega), List.take_of_length_le (by rw [List.length_drop]; omega), List.take_of_length_le (by rw [List.length_drop]; omega)]
theorem fit_room {wd ow : List Nat} {i : Nat} (h : ((sgn wd).drop i).take ow.length = ow) (h1 : 1 ≤ ow.length) (h35 : 35 ∉ ow) : i + ow.length ≤ wd.length + 1 := by
  have hl := congrArg List.length h
  rw [List.length_take, List.length_drop, sgn_len] at hl
  refine Decidable.byContradiction fun n => h35 ?_
  have e : i + ow.length = wd.length + 2 := by omega
  have g : ow[ow.length - 1]? = some 35 := by
    rw [← h, List.getElem?_take_of_lt (by rw [h]; omega), List.getElem?_drop]
    rw [show i + ((((sgn wd).drop i).take ow.length).length - 1) = wd.length + 1 by rw [h]; omega]
    exact sgn_last wd
  exact List.mem_of_getElem? g
theorem dec_nil (l : List Nat) : decide (V.str (T l) = V.str (Str.ofString "")) = decide (l = []) := by
  rw [show Str.ofString "" = T [] from nil_eq]
  refine decide_eq_decide.mpr ⟨fun z => T_inj (V.str.inj z), fun z => by rw [z]⟩
section
variable {P : Program} {w : World} {K : PySem.W.Frag} {mg : Str → Option Value} {base : Heap}
abbrev sFits : Stmt := topS 26
theorem scFits : FnScope ["rule", "signs", "at", "ahead", "own", "behind", "_", "past"] ["rule", "signs", "at"] (defScope sFits) := ⟨rfl, rfl, rfl, by decide +kernel, rfl, by decide +kernel, by decide +kernel⟩
/-- where its letters stand, the sign behind them stands, too -/
def RoomAt (ρ : Rule) (z : List Nat) (i : Nat) : Prop := (z.drop i).take ρ.ow.length = ρ.ow → i + ρ.ow.length < z.length
def spFits : Sp := fun vs H Q _ => ∃ (t : Addr) (ρ : Rule) (z : List Nat) (i : Nat), vs = [.ref t, .str (T z), .int i] ∧ H t = some (.tup ρ.vs) ∧ ρ.ow.length ≤ 2 ∧ 1 ≤ i ∧ i ≤ z.length ∧ z.length ≤ 100 ∧ RoomAt ρ z i ∧
  Q (.bl (fitsL ρ z i)) H
theorem ok_fits {f : Addr} {fd : FuncData} (F : Fun K "fits" "fits" sFits f fd) (B : Bn mg) : FnOk P w K mg base CX0 1 f fd ["rule", "signs", "at"] spFits := by
  refine F.ok scFits (fun vs H Q E h => ?_) (fun cdv A outer s H vs Q E hr h => ?_)
  · obtain ⟨t, ρ, z, i, rfl, _⟩ := h
    rfl
  · obtain ⟨t, ρ, z, i, rfl, ht, h2, hi1, hi, hw, hroom, q⟩ := h
    refine ⟨_, pss_cons (ps_asg (pv 0) (pg_tup (by rfl) (pgs_cons (pg_name (i := 3) scFits.nd rfl (.inl rfl)) (pgs_cons (pg_name (i := 4) scFits.nd rfl (.inl rfl)) (pgs_cons (pg_name (i := 5) scFits.nd rfl (.inl rfl)) (pgs_cons (pg_name (i := 6) scFits.nd rfl (.inl rfl)) pgs_nil))))))
      (pss_cons (ps_set (i := 7) scFits.nd rfl (.inl rfl) (pe_op op_add (pv 2) (pe_callB call_len_str (by rfl) B.len PySem.boot_len (pa_cons (pv 4) pa_nil))))
      (pss_cons (ps_if (pt_cmpR op_ne (pe_slice sl_str (pv 1) (po_some (pv 2)) (po_some (pv 7))) (pv 4) (nomark _)) (pss_one (ps_ret pe_bl)) pss_nil)
      (pss_one (ps_ret (pe_and (pe_or (pe_cmpR op_eq (pv 3) pe_str (nomark _)) (pe_one (pe_cmpR op_in_sign (pe_ix ix_str (pv 1) (pe_op op_sub (pv 2) pe_int) (fun _ _ => rfl)) (pv 3) rfl)))
        (pe_one (pe_or (pe_cmpR op_eq (pv 5) pe_str (nomark _)) (pe_one (pe_cmpR op_in_sign (pe_ix ix_str (pv 1) (pv 7) (fun _ _ => rfl)) (pv 5) rfl))))))))), ?_⟩
    have hzl : (T z).length ≤ sizeLine := by rw [T_len]; exact small (by omega)
    have hol : (T ρ.ow).length ≤ sizeLine := by rw [T_len]; exact small (by omega)
    refine ⟨_, rfl, t, _, rfl, .inl (.inl ht), rfl, _, _, rfl, _, _, rfl, _, _, rfl, _, _, rfl, rfl, ?_⟩
    refine ⟨_, rfl, _, rfl, _, rfl, hol, _, _, rfl, rfl, ?_⟩
    refine ⟨_, rfl, _, rfl, _, rfl, _, rfl, _, rfl, T z, rfl, hzl, _, rfl, ?_⟩
    rw [show ((i : Nat) : Int) + ((T ρ.ow).length : Int) = ((i + ρ.ow.length : Nat) : Int) by rw [T_len]; omega, cut_at (by omega)]
    refine ⟨rfl, _, rfl, ?_⟩
    have eow : (V.str (T ((z.drop i).take ρ.ow.length)) = V.str (T ρ.ow)) ↔ (z.drop i).take ρ.ow.length = ρ.ow :=
      ⟨fun z => T_inj (V.str.inj z), fun z => by rw [z]⟩
    by_cases c : (z.drop i).take ρ.ow.length = ρ.ow
    · rw [decide_eq_true (eow.mpr c)]
      refine iteF ?_
      have room := hroom c
      unfold fitsL at q
      rw [if_pos c] at q
      -- ahead
      refine ⟨_, rfl, rfl, _, rfl, ?_⟩
      rw [dec_nil]
      have g1 : (T z).cps.toList[i - 1]? = some (z.getD (i - 1) 0) := by rw [T_cps, List.getD_eq_getElem?_getD, List.getElem?_eq_getElem (by omega)]; rfl
      have g2 : (T z).cps.toList[i + ρ.ow.length]? = some (z.getD (i + ρ.ow.length) 0) := by rw [T_cps, List.getD_eq_getElem?_getD, List.getElem?_eq_getElem (by omega)]; rfl
      refine ite2 (fun c1 => ?_) (fun c1 => ?_)
      · refine ⟨true, rfl, iteT ?_⟩
        have q2 : Q (.bl (decide (ρ.be = []) || decide (z.getD (i + ρ.ow.length) 0 ∈ ρ.be))) H := by
          rw [c1, Bool.true_or, Bool.true_and] at q; exact q
        refine ⟨_, rfl, rfl, _, rfl, ?_⟩
        rw [dec_nil]
        refine ite2 (fun d1 => ?_) (fun d1 => ?_)
        · rw [d1, Bool.true_or] at q2
          exact q2
        · rw [Bool.eq_false_iff.mpr d1, Bool.false_or] at q2
          exact ⟨_, rfl, _, rfl, T z, _, _, rfl, rfl, hzl, atI_of g2 (by rw [T_len]; omega), _, rfl, _, T ρ.be, rfl, rfl, q2⟩
      · rw [Bool.eq_false_iff.mpr c1, Bool.false_or] at q
        refine ⟨_, rfl, _, rfl, _, _, rfl, rfl, T z, _, _, rfl, rfl, hzl, atI_of g1 (by omega), _, rfl, _, T ρ.ah, rfl, rfl, _, rfl, ?_⟩
        refine ite2 (fun c2 => ?_) (fun c2 => ?_)
        · have q2 : Q (.bl (decide (ρ.be = []) || decide (z.getD (i + ρ.ow.length) 0 ∈ ρ.be))) H := by
            rw [show decide (z.getD (i - 1) 0 ∈ ρ.ah) = true from c2, Bool.true_and] at q; exact q
          refine ⟨_, rfl, rfl, _, rfl, ?_⟩
          rw [dec_nil]
          refine ite2 (fun d1 => ?_) (fun d1 => ?_)
          · rw [d1, Bool.true_or] at q2
            exact q2
          · rw [Bool.eq_false_iff.mpr d1, Bool.false_or] at q2
            exact ⟨_, rfl, _, rfl, T z, _, _, rfl, rfl, hzl, atI_of g2 (by rw [T_len]; omega), _, rfl, _, T ρ.be, rfl, rfl, q2⟩
        · rw [show decide (z.getD (i - 1) 0 ∈ ρ.ah) = false from Bool.eq_false_iff.mpr c2, Bool.false_and] at q
          exact q
    · rw [decide_eq_false fun z => c (eow.mp z)]
      refine iteT ?_
      unfold fitsL at q
      rw [if_neg c] at q
      exact q
end
end Say
namespace Say
open PySem PySem.Spec PyProof.Rows L2
/-- the number of the first rule that fits -/
def ff (rs : List Rule) (z : List Nat) (i : Nat) : Option Nat := rs.findIdx? fun ρ => fitsL ρ z i
def ruleAt (rs : List Rule) (k : Nat) : Rule := rs.getD k ⟨[], [], [], []⟩
/-- the steps from a place on, and where it is stuck -/
def wk (rs : List Rule) (z : List Nat) : Nat → Nat → List (Nat × Nat) × Option Nat
  | 0, _ => ([], none)
  | m + 1, i => if i < z.length - 1 then
      match ff rs z i with
      | none => ([], some (i - 1))
      | some k => ((i - 1, k) :: (wk rs z m (i + (ruleAt rs k).ow.length)).1, (wk rs z m (i + (ruleAt rs k).ow.length)).2)
    else ([], none)
def W (rs : List Rule) (wd : List Nat) : List (Nat × Nat) × Option Nat := wk rs (sgn wd) (wd.length + 1) 1
theorem wk_end (rs : List Rule) (z : List Nat) (m i : Nat) (h : ¬ i < z.length - 1) : wk rs z m i = ([], none) := by
  cases m with
  | zero => rfl
  | succ m =>
    unfold wk
    rw [if_neg h]
theorem wk_none {rs : List Rule} {z : List Nat} {m i : Nat} (h : i < z.length - 1) (e : ff rs z i = none) : wk rs z (m + 1) i = ([], some (i - 1)) := by
  rw [wk, if_pos h, e]
theorem wk_some {rs : List Rule} {z : List Nat} {m i k : Nat} (h : i < z.length - 1) (e : ff rs z i = some k) : wk rs z (m + 1) i = ((i - 1, k) :: (wk rs z m (i + (ruleAt rs k).ow.length)).1, (wk rs z m (i + (ruleAt rs k).ow.length)).2) := by
  rw [wk, if_pos h, e]
theorem wk_len (rs : List Rule) (z : List Nat) : ∀ m i : Nat, (wk rs z m i).1.length ≤ m
  | 0, _ => Nat.le_refl 0
  | m + 1, i => by
    by_cases h : i < z.length - 1
    · cases e : ff rs z i with
      | none => rw [wk_none h e]; exact Nat.zero_le _
      | some k =>
        rw [wk_some h e]
        exact Nat.succ_le_succ (wk_len rs z m _)
    · rw [wk_end rs z _ i h]
      exact Nat.zero_le _
theorem ff_lt {rs : List Rule} {z : List Nat} {i k : Nat} (e : ff rs z i = some k) : k < rs.length := by
  obtain ⟨h, _⟩ := List.findIdx?_eq_some_iff_getElem.mp e
  exact h
theorem ruleAt_eq {rs : List Rule} {k : Nat} {ρ : Rule} (h : rs[k]? = some ρ) : ruleAt rs k = ρ := by
  unfold ruleAt
  rw [List.getD_eq_getElem?_getD, h]
  rfl
/-- what rules ask for the walk -/
structure RlOk (ρ : Rule) : Prop where
  o1 : 1 ≤ ρ.ow.length
  o2 : ρ.ow.length ≤ 2
  h35 : 35 ∉ ρ.ow
  s3 : ρ.so.length ≤ 3
theorem RuleOk.rl {L : List Nat} {ρ : Rule} (hL : LetOk L) (h : RuleOk L ρ) : RlOk ρ := ⟨h.o1, h.o2, fun z => by have := (hL.az _ (h.ow _ z)).1; omega, h.s3⟩
theorem BookOk.rls {L : List Nat} {rs : List Rule} {es : List Exc} (h : BookOk L rs es) : ∀ ρ ∈ rs, RlOk ρ := fun ρ hρ => (h.rl ρ hρ).rl h.lt
theorem eqT {a b : List Nat} : decide (V.str (T a) = V.str (T b)) = decide (a = b) := decide_eq_decide.mpr ⟨fun z => T_inj (V.str.inj z), fun z => by rw [z]⟩
section
variable {P : Program} {w : World} {K : PySem.W.Frag} {mg : Str → Option Value} {base : Heap}
abbrev sFF : Stmt := topS 27
theorem scFF : FnScope ["rules", "signs", "at", "number", "rule"] ["rules", "signs", "at"] (defScope sFF) := ⟨rfl, rfl, rfl, by decide +kernel, rfl, by decide +kernel, by decide +kernel⟩
def optI : Option Nat → V
  | none => .non
  | some k => .int k
def spFF : Sp := fun vs H Q _ => ∃ (R : Addr) (rs : List Rule) (z : List Nat) (i : Nat), vs = [.ref R, .str (T z), .int i] ∧ RulesAt H R rs ∧ (∀ ρ ∈ rs, RlOk ρ) ∧ 1 ≤ i ∧ i ≤ z.length ∧ z.length ≤ 100 ∧ (∀ ρ ∈ rs, RoomAt ρ z i) ∧
  ∀ H', Same H H' → Q (optI (ff rs z i)) H'
theorem room_sgn {rs : List Rule} (h : ∀ ρ ∈ rs, RlOk ρ) (wd : List Nat) (i : Nat) : ∀ ρ ∈ rs, RoomAt ρ (sgn wd) i := fun ρ hρ c => by
  have := fit_room c (h ρ hρ).o1 (h ρ hρ).h35
  rw [sgn_len]
  omega
theorem ok_FF {f : Addr} {fd : FuncData} (F : Fun K "first_fit" "first_fit" sFF f fd) (B : Bn mg) (DF : Df P w K mg base "fits" ["rule", "signs", "at"] 1 spFits) : FnOk P w K mg base CX0 2 f fd ["rules", "signs", "at"] spFF := by
  obtain ⟨fF, fdF, GF, kF, bF, mF⟩ := DF
  refine F.ok scFF (fun vs H Q E h => ?_) (fun cdv A outer s H vs Q E hr h => ?_)
  · obtain ⟨R, rs, z, i, rfl, _⟩ := h
    rfl
  · obtain ⟨R, rs, z, i, rfl, ⟨ts, hR, hp⟩, ho, hi1, hi, hw, hrm, q⟩ := h
    refine ⟨_, pss_cons (ps_for PassesOwn.never rfl (pi_enumT (by rfl) B.enu (pa_cons (pv 0) pa_nil)) (pg_tup (by rfl) (pgs_cons (pg_name (i := 3) scFF.nd rfl (.inl rfl)) (pgs_cons (pg_name (i := 4) scFF.nd rfl (.inl rfl)) pgs_nil)))
        (pss_one (ps_if (pt_val (pe_call GF hr (by rfl) mF kF bF .nil pass0 (pa_cons (pv 4) (pa_cons (pv 1) (pa_cons (pv 2) pa_nil))))) (pss_one (ps_ret (pv 3))) pss_nil)))
      (pss_one (ps_ret pe_non)), ?_⟩
    refine ⟨_, rfl, R, _, rfl, .inl (.inl hR), for_it (walk_enumT (xs := ts.map V.ref)) (fun j σ H2 => Same H H2 ∧ (∃ v3 v4, σ = [some (.ref R), some (.str (T z)), some (.int i), v3, v4]) ∧ ∀ k ρ, k < j → rs[k]? = some ρ → fitsL ρ z i = false)
      ⟨Same.refl H, ⟨_, _, rfl⟩, fun k ρ h => absurd h (Nat.not_lt_zero k)⟩ (fun j σ H2 _ h => .inl (.inl (h.1 _ _ hR))) ?_ ?_⟩
    · rintro j x σ H2 H3 hj ⟨s2, ⟨v3, v4, rfl⟩, hn⟩ ⟨t, x1, x2, rfl, ht, rfl, g1, g2⟩
      cases g1
      have g2 : (ts.map V.ref)[j]? = some x2 := g2
      rw [List.getElem?_map] at g2
      obtain ⟨a, ha, e⟩ := Option.map_eq_some_iff.mp g2
      subst e
      obtain ⟨ρ, hρ, hat⟩ := paired_at hp ha
      have hm := ho ρ (List.mem_of_getElem? hρ)
      have sm := same_new ht (.tup [.int (j : Nat), .ref a])
      refine ⟨t, _, rfl, .inl (.inl upd_same), rfl, _, _, rfl, _, _, rfl, rfl, ?_⟩
      refine ⟨_, rfl, _, rfl, _, rfl, a, ρ, z, i, rfl, sm _ _ (s2 _ _ hat), hm.o2, hi1, hi, hw, hrm ρ (List.mem_of_getElem? hρ), _, rfl, ite2 (fun c => ?_) (fun c => ?_)⟩
      · refine ⟨_, rfl, ?_⟩
        have := q _ (s2.trans sm)
        have e : ff rs z i = some j := by
          refine List.findIdx?_eq_some_iff_getElem.mpr ⟨(List.getElem?_eq_some_iff.mp hρ).1, ?_, fun k hk => ?_⟩
          · rw [(List.getElem?_eq_some_iff.mp hρ).2]
            exact c
          · rw [hn k _ hk (List.getElem?_eq_getElem (by have := (List.getElem?_eq_some_iff.mp hρ).1; omega))]
            exact Bool.false_ne_true
        rw [e] at this
        exact this
      · refine ⟨s2.trans sm, ⟨_, _, rfl⟩, fun k ρ' hk hk' => ?_⟩
        by_cases e : k = j
        · subst e
          rw [hρ] at hk'
          cases hk'
          exact Bool.eq_false_iff.mpr c
        · exact hn k ρ' (by omega) hk'
    · rintro σ H2 ⟨s2, ⟨v3, v4, rfl⟩, hn⟩
      have := q _ s2
      have e : ff rs z i = none := by
        refine List.findIdx?_eq_none_iff.mpr fun ρ hρ => ?_
        obtain ⟨k, hk⟩ := List.mem_iff_getElem?.mp hρ
        have hl := (List.getElem?_eq_some_iff.mp hk).1
        exact hn k ρ (by rw [List.length_map, paired_len hp]; exact hl) hk
      rw [e] at this
      exact this
abbrev sSt : Stmt := topS 28
theorem scSt : FnScope ["rules", "tail", "signs", "steps", "at", "number"] ["rules", "tail"] (defScope sSt) := ⟨rfl, rfl, rfl, by decide +kernel, rfl, by decide +kernel, by decide +kernel⟩
/-- the list at D holds steps -/
def StepsAt (H : Hp) (D : Addr) (ss : List (Nat × Nat)) : Prop := ∃ ts : List Addr, H D = some (.lst (ts.map V.ref)) ∧ Paired (fun t (s : Nat × Nat) => H t = some (.tup [.int (s.1 : Nat), .int (s.2 : Nat)])) ts ss
theorem StepsAt.same {H H' : Hp} {D : Addr} {ss : List (Nat × Nat)} (h : StepsAt H D ss) (e : Same H H') : StepsAt H' D ss := by
  obtain ⟨ts, h1, h2⟩ := h
  exact ⟨ts, e _ _ h1, paired_mono (fun t ρ q => e _ _ q) h2⟩
def spSt : Sp := fun vs H Q _ => ∃ (R : Addr) (rs : List Rule) (wd : List Nat), vs = [.ref R, .str (T (35 :: wd))] ∧ RulesAt H R rs ∧ (∀ ρ ∈ rs, RlOk ρ) ∧ wd.length ≤ 80 ∧
  ∀ (t D : Addr) (H' : Hp), Same H H' → H D = none → H' t = some (.tup [.ref D, optI (W rs wd).2]) → StepsAt H' D (W rs wd).1 → Q (.ref t) H'
theorem ok_St {f : Addr} {fd : FuncData} (F : Fun K "steps_of" "steps_of" sSt f fd) (B : Bn mg) (C : Cn mg) (cO : KI mg "OWN" 1) (DF : Df P w K mg base "first_fit" ["rules", "signs", "at"] 2 spFF) : FnOk P w K mg base CX0 3 f fd ["rules", "tail"] spSt := by
  obtain ⟨fF, fdF, GF, kF, bF, mF⟩ := DF
  obtain ⟨tE, mE⟩ := C.edge
  obtain ⟨tO, mO⟩ := cO
  refine F.ok scSt (fun vs H Q E h => ?_) (fun cdv A outer s H vs Q E hr h => ?_)
  · obtain ⟨R, rs, wd, rfl, _⟩ := h
    rfl
  · obtain ⟨R, rs, wd, rfl, hR, ho, hw, q⟩ := h
    refine ⟨_, pss_cons (ps_set (i := 2) scSt.nd rfl (.inl rfl) (pe_op op_add_str (pv 1) (pe_glob (v := .str "#") rfl mE ⟨_, rfl⟩)))
      (pss_cons (ps_set (i := 3) scSt.nd rfl (.inl rfl) (pe_lst pa_nil))
      (pss_cons (ps_set (i := 4) scSt.nd rfl (.inl rfl) pe_int)
      (pss_cons (ps_while PassesOwn.never (pt_cmpR op_lt (pv 4) (pe_op op_sub (pe_callB call_len_str (by rfl) B.len PySem.boot_len (pa_cons (pv 2) pa_nil)) pe_int) (nomark _))
        (pss_cons (ps_set (i := 5) scSt.nd rfl (.inl rfl) (pe_call GF hr (by rfl) mF kF bF .nil pass0 (pa_cons (pv 0) (pa_cons (pv 2) (pa_cons (pv 4) pa_nil)))))
        (pss_cons (ps_if (pt_cmpR op_isN (pv 5) pe_non (nomark _)) (pss_one (ps_ret (pe_tup (pa_cons (pv 3) (pa_cons (pe_op op_sub (pv 4) pe_int) pa_nil))))) pss_nil)
        (pss_cons (ps_expr (pe_bm PySem.F.plainAttrs_list PySem.F.slot_list_append PySem.F.type_list_append mt_append (pv 3) (pa_cons (pe_tup (pa_cons (pe_op op_sub (pv 4) pe_int) (pa_cons (pv 5) pa_nil))) pa_nil)))
        (pss_one (ps_aug (i := 4) scSt.nd rfl (.inl rfl) (pe_callB call_len_str (by rfl) B.len PySem.boot_len (pa_cons (pe_ix ix_tup (pe_ix ix_tup (pv 0) (pv 5) (fun _ _ => rfl)) (pe_glob (v := .int 1) rfl mO ⟨_, rfl⟩) (fun _ _ => rfl)) pa_nil)) ip_add))))))
      (pss_one (ps_ret (pe_tup (pa_cons (pv 3) (pa_cons pe_non pa_nil)))))))), ?_⟩
    refine ⟨_, rfl, _, _, rfl, rfl, (by rw [len_hash, T_len, List.length_cons]; exact small (by omega)), ?_⟩
    rw [app_hash]
    show tSeq _ _ _ _ _
    refine ⟨(by show 0 ≤ sizeLine; decide), fun D hD => ?_⟩
    obtain ⟨rts, hRt, hRp⟩ := id hR
    have zl : (T (sgn wd)).length = wd.length + 2 := by rw [T_len, sgn_len]
    have hz0 : (T (sgn wd)).length ≤ sizeLine := by rw [zl]; exact small (by omega)
    refine ⟨fun m σ H2 => ∃ (i : Nat) (acc : List (Nat × Nat)) (v5 : Option V), σ = [some (.ref R), some (.str (T (35 :: wd))), some (.str (T (sgn wd))), some (.ref D), some (.int i), v5] ∧ 1 ≤ i ∧ wd.length + 2 ≤ i + m ∧ Same H H2 ∧ StepsAt H2 D acc ∧
      W rs wd = (acc ++ (wk rs (sgn wd) m i).1, (wk rs (sgn wd) m i).2), ⟨wd.length + 1, 1, [], _, rfl, Nat.le_refl _, by omega, same_new hD _, ⟨[], upd_same, .nil⟩, rfl⟩, fun m σ H2 hW => ?_⟩
    obtain ⟨i, acc, v5, rfl, hi1, hm, s2, hS, hW⟩ := hW
    refine ⟨_, rfl, _, rfl, _, rfl, hz0, _, _, rfl, rfl, _, _, rfl, rfl, _, rfl, ite2 (fun c => ?_) (fun c => ?_)⟩
    · have c' : (i : Int) < ((T (sgn wd)).length : Int) - 1 := of_decide_eq_true c
      rw [zl] at c'
      have hi : i ≤ wd.length := by omega
      have hlt : i < (sgn wd).length - 1 := by rw [sgn_len]; omega
      obtain ⟨m', rfl⟩ : ∃ m', m = m' + 1 := ⟨m - 1, by omega⟩
      refine ⟨fun σ' H' => ∃ (i : Nat) (acc : List (Nat × Nat)) (v5 : Option V), σ' = [some (.ref R), some (.str (T (35 :: wd))), some (.str (T (sgn wd))), some (.ref D), some (.int i), v5] ∧ 1 ≤ i ∧ wd.length + 2 ≤ i + m' ∧ Same H H' ∧ StepsAt H' D acc ∧
        W rs wd = (acc ++ (wk rs (sgn wd) m' i).1, (wk rs (sgn wd) m' i).2), fun σ' H' h => ⟨m', Nat.lt_succ_self _, h⟩, ?_⟩
      refine ⟨_, rfl, _, rfl, _, rfl, R, rs, sgn wd, i, rfl, hR.kt (.of s2), ho, hi1, by rw [sgn_len]; omega, by rw [sgn_len]; omega, room_sgn ho wd i, fun H3 s3 => ?_⟩
      have s23 := s2.trans s3
      obtain ⟨ts, hDl, hDp⟩ := hS.same s3
      cases e : ff rs (sgn wd) i with
      | none =>
        rw [wk_none hlt e] at hW
        refine ⟨_, rfl, rfl, _, rfl, iteT ?_⟩
        refine ⟨_, rfl, _, rfl, _, _, rfl, rfl, (by show 2 ≤ sizeLine; decide), fun t ht => ?_⟩
        have sm := same_new ht (.tup [.ref D, .int ((i : Int) - 1)])
        refine q t D _ (s23.trans sm) hD ?_ ?_
        · rw [upd_same, hW]
          show some (HO.tup [V.ref D, V.int ((i : Int) - 1)]) = some (HO.tup [V.ref D, V.int ((i - 1 : Nat) : Int)])
          rw [show ((i - 1 : Nat) : Int) = (i : Int) - 1 by omega]
        · rw [hW, List.append_nil]
          exact StepsAt.same ⟨ts, hDl, hDp⟩ sm
      | some k =>
        rw [wk_some hlt e] at hW
        have hk := ff_lt e
        obtain ⟨a, ha, hat⟩ := paired_at' hRp (List.getElem?_eq_getElem hk)
        have hm2 := ho _ (List.getElem_mem hk)
        have er : ruleAt rs k = rs[k] := ruleAt_eq (List.getElem?_eq_getElem hk)
        refine ⟨_, rfl, rfl, _, rfl, ?_⟩
        rw [show decide (optI (some k) = V.non) = false from decide_eq_false (fun z => by cases z)]
        refine iteF ?_
        refine ⟨_, rfl, .inl ⟨rfl, _, .inl (.inl hDl)⟩, _, rfl, _, _, rfl, rfl, _, rfl, (by show 2 ≤ sizeLine; decide), fun t ht => ?_⟩
        have sm := same_new ht (.tup [.int ((i : Int) - 1), .int (k : Nat)])
        have hDl' := sm _ _ hDl
        have sall : Same H (upd (upd H3 t (.tup [.int ((i : Int) - 1), .int (k : Nat)])) D (.lst (ts.map V.ref ++ [.ref t]))) := fun b u e => by
          rw [upd_ne (ne_of_none e hD)]
          exact sm _ _ (s23 _ _ e)
        refine ⟨D, _, _, rfl, rfl, hDl', ?_, ?_⟩
        · rw [List.length_map, paired_len hDp]
          have l1 : (W rs wd).1.length ≤ wd.length + 1 := wk_len rs (sgn wd) (wd.length + 1) 1
          rw [hW] at l1
          simp at l1
          exact small1000 (by omega)
        · have kR : Same H3 (upd (upd H3 t (.tup [.int ((i : Int) - 1), .int (k : Nat)])) D (.lst (ts.map V.ref ++ [.ref t]))) → True := fun _ => trivial
          have atR := sall _ _ hRt
          have ata := sall _ _ hat
          refine ⟨_, rfl, _, rfl, _, rfl, R, _, (k : Int), .ref a, rfl, rfl, .inl (.inl atR), atI_nat (by rw [List.getElem?_map, ha]; rfl), a, _, 1, .str (T rs[k].ow), rfl, rfl, .inl (.inl ata), atI_nat (j := 1) rfl, _, rfl, (by rw [T_len]; have := hm2.o2; exact small (by omega)), _, _, rfl, rfl, ?_⟩
          refine ⟨i + rs[k].ow.length, acc ++ [(i - 1, k)], some (.int (k : Nat)), ?_, by omega, by have := hm2.o1; omega, sall, ?_, ?_⟩
          · have ee : ((i + rs[k].ow.length : Nat) : Int) = (i : Int) + ((T rs[k].ow).length : Int) := by rw [T_len]; omega
            rw [ee]
            rfl
          · refine ⟨ts ++ [t], by rw [upd_same, List.map_append]; rfl, paired_app (paired_mono (fun t' s h => ?_) hDp) (.cons ?_ .nil)⟩
            · rw [upd_ne (ne_of h hDl (by intro z; cases z))]
              exact sm _ _ h
            · rw [upd_ne (ne_of_none hDl ht).symm, upd_same]
              show some (HO.tup [V.int ((i : Int) - 1), V.int (k : Nat)]) = some (HO.tup [V.int ((i - 1 : Nat) : Int), V.int (k : Nat)])
              rw [show ((i - 1 : Nat) : Int) = (i : Int) - 1 by omega]
          · rw [hW, er, List.append_assoc]
            rfl
    · have c' : ¬ (i : Int) < ((T (sgn wd)).length : Int) - 1 := of_decide_eq_false (Bool.eq_false_iff.mpr c)
      rw [zl] at c'
      rw [wk_end rs (sgn wd) m i (by rw [sgn_len]; omega)] at hW
      refine ⟨_, rfl, (by show 2 ≤ sizeLine; decide), fun t ht => ?_⟩
      have sm := same_new ht (.tup [.ref D, .non])
      refine q t D _ (s2.trans sm) hD ?_ ?_
      · rw [upd_same, hW]
        rfl
      · rw [hW, List.append_nil]
        exact hS.same sm
end
end Say
namespace Say
open PySem PySem.Spec PyProof.Rows L2
theorem Same.seqT {K : PySem.W.Frag} {H H' : Hp} {a : Addr} {xs : List V} (e : Same H H') (h : SqT K H a xs) : SqT K H' a xs := by
  rcases h with (h | ⟨o, h⟩) | h
  · exact .inl (.inl (e _ _ h))
  · exact .inl (.inr ⟨o, e _ _ h⟩)
  · exact .inr h
mutual
theorem dp_same {K : PySem.W.Frag} {H H' : Hp} (e : Same H H') : ∀ {v : V} {d : PyData}, Dp K H v d → Dp K H' v d
  | _, _, .non => .non
  | _, _, .bl b => .bl b
  | _, _, .int i => .int i
  | _, _, .str x => .str x
  | _, _, .lst h a => .lst (Same.seq e h) (dpa_same e a)
  | _, _, .tup h a => .tup (Same.seqT e h) (dpa_same e a)
theorem dpa_same {K : PySem.W.Frag} {H H' : Hp} (e : Same H H') : ∀ {vs : List V} {ds : List PyData}, DpAll K H vs ds → DpAll K H' vs ds
  | _, _, .nil => .nil
  | _, _, .cons h t => .cons (dp_same e h) (dpa_same e t)
end
theorem dpa_len {K : PySem.W.Frag} {H : Hp} : ∀ {vs : List V} {ds : List PyData}, DpAll K H vs ds → vs.length = ds.length
  | _, _, .nil => rfl
  | _, _, .cons _ t => by simp [dpa_len t]
theorem dpa_at {K : PySem.W.Frag} {H : Hp} : ∀ {vs : List V} {ds : List PyData}, DpAll K H vs ds → ∀ {i : Nat} {d : PyData}, ds[i]? = some d → ∃ v, vs[i]? = some v ∧ Dp K H v d
  | _, _, .nil, i, d, h => by cases h
  | _, _, .cons a t, 0, d, h => by
    cases h
    exact ⟨_, rfl, a⟩
  | _, _, .cons a t, i + 1, d, h => dpa_at t h
/-- data with no dicts, its lists not long -/
inductive Few : PyData → Prop
  | non : Few .none
  | bl (b : Bool) : Few (.bool b)
  | int (i : Int) : Few (.int i)
  | str (x : Str) : Few (.str x)
  | lst {ds : List PyData} : ds.length ≤ 1000 → (∀ d ∈ ds, Few d) → Few (.list ds)
  | tup {ds : List PyData} : ds.length ≤ 1000 → (∀ d ∈ ds, Few d) → Few (.tuple ds)
theorem depth_mem : ∀ {ds : List PyData} {d : PyData}, d ∈ ds → d.depth ≤ PyData.depthAll ds
  | x :: r, d, h => by
    unfold PyData.depthAll
    rcases List.mem_cons.mp h with rfl | h
    · exact Nat.le_max_left _ _
    · exact Nat.le_trans (depth_mem h) (Nat.le_max_right _ _)
section
variable {P : Program} {w : World} {K : PySem.W.Frag} {mg : Str → Option Value} {base : Heap}
theorem ty_list {H : Hp} {a : Addr} {xs : List V} (h : SqL K H a xs) : TyX K H (.ref a) (.type "list") := by
  rcases h with (h | ⟨o, h⟩) | ⟨o, its, n, h, hc, _⟩
  · exact .base (.lst h)
  · exact .base (.frz h)
  · exact .kList h hc
theorem ty_tup {H : Hp} {a : Addr} {xs : List V} (h : SqT K H a xs) : TyX K H (.ref a) (.type "tuple") := by
  rcases h with (h | ⟨o, h⟩) | ⟨o, its, n, h, hc, _⟩
  · exact .base (.tup h)
  · exact .fTuple h
  · exact .kTuple h hc
abbrev sAl : Stmt := topS 51
abbrev psAl : List Str := ["_law_found", "_law_due"]
theorem scAl : FnScope ["_law_found", "_law_due", "_law_same_kind", "_law_k"] ["_law_found", "_law_due"] (defScope sAl) := ⟨rfl, rfl, rfl, by decide +kernel, rfl, by decide +kernel, by decide +kernel⟩
/-- two values of the same data, not too deep -/
def spAl (K : PySem.W.Frag) (n : Nat) : Sp := fun vs H Q _ => ∃ (x y : V) (d : PyData), vs = [x, y] ∧ Dp K H x d ∧ Dp K H y d ∧ Few d ∧ d.depth < n ∧ ∀ H', Same H H' → Q (.bl true) H'
theorem kit2 {t a b : String} {r : Bool} (h : (match kitB t a, kitB t b with | some true, _ => some true | some false, some x => some x | _, _ => none) = some r) (h2 : kitB t b ≠ none) : PySem.W.kitAny K (.type t) [.type a, .type b] = some r := by
  cases ha : kitB t a with
  | none => rw [ha] at h; cases h
  | some x =>
    rw [ha] at h
    cases x with
    | true =>
      have h : some true = some r := h
      cases h
      exact kitAny_cons (kit_ty ha) (fun z => by cases z) fun _ => rfl
    | false =>
      cases hb : kitB t b with
      | none => exact absurd hb h2
      | some y =>
        rw [hb] at h
        have h : some y = some r := h
        cases h
        refine kitAny_cons (kit_ty ha) (fun _ => ?_) fun z => by cases z
        refine kitAny_cons (kit_ty hb) (fun z => ?_) fun z => z
        rw [z]
        exact kitAny_nil
def tTL : TE := tTup (tCons (tC (.ty "tuple")) (tCons (tC (.ty "list")) tNil))
theorem ok_al {f : Addr} {fd : FuncData} {n : Nat} (F : Fun K "_law_alike" "_law_alike" sAl f fd) (G : FnOk P w K mg base CX0 n f fd psAl (spAl K n)) (bG : Binds K fd psAl []) (mG : mg "_law_alike" = some (.ref f)) (B : Bn mg) :
    FnOk P w K mg base CX0 (n + 1) f fd psAl (spAl K (n + 1)) := by
  refine F.ok scAl (fun vs H Q E h => ?_) (fun cdv A outer s H vs Q E hr h => ?_)
  · obtain ⟨x, y, d, rfl, _⟩ := h
    rfl
  · obtain ⟨x, y, d, rfl, hx, hy, hF, hd, q⟩ := h
    refine ⟨_, pss_cons (ps_if (pt_val (pe_callB call_isiT (by rfl) B.isi (by decide +kernel) (pa_cons (pv 1) (pa_cons (pe_tup (pa_cons (pe_bltn (v := .ty "tuple") rfl B.tup (by decide +kernel) rfl) (pa_cons (pe_bltn (v := .ty "list") rfl B.lst (by decide +kernel) rfl) pa_nil))) pa_nil))))
        (pss_cons (ps_if (PW.pt (pw_or (pt_cmpR op_ne (pe_callB call_isi (by rfl) B.isi (by decide +kernel) (pa_cons (pv 0) (pa_cons (pe_bltn (v := .ty "tuple") rfl B.tup (by decide +kernel) rfl) pa_nil))) (pe_callB call_isi (by rfl) B.isi (by decide +kernel) (pa_cons (pv 1) (pa_cons (pe_bltn (v := .ty "tuple") rfl B.tup (by decide +kernel) rfl) pa_nil))) (nomark _))
            (pw_or1 (pt_not (pt_val (pe_callB call_isiT (by rfl) B.isi (by decide +kernel) (pa_cons (pv 0) (pa_cons (pe_tup (pa_cons (pe_bltn (v := .ty "tuple") rfl B.tup (by decide +kernel) rfl) (pa_cons (pe_bltn (v := .ty "list") rfl B.lst (by decide +kernel) rfl) pa_nil))) pa_nil)))))))) (pss_one (ps_ret pe_bl)) pss_nil)
        (pss_cons (ps_if (pt_cmpR op_ne (pe_callB call_len (by rfl) B.len PySem.boot_len (pa_cons (pv 0) pa_nil)) (pe_callB call_len (by rfl) B.len PySem.boot_len (pa_cons (pv 1) pa_nil)) (nomark _)) (pss_one (ps_ret pe_bl)) pss_nil)
        (pss_one (ps_ret (pe_cmpR (op_eqD hr.units) (pe_lc (own := [("_law_k", 3)]) (g := gName 3) (te := tVar 3) (tt := tNot (tB (tCall (spAl K n) [] E0 (tCons (tOp (rIx K) (tVar 0) (tVar 3)) (tCons (tOp (rIx K) (tVar 1) (tVar 3)) tNil))))) rfl scAl.nd
            (pi_range1 rfl B.rng (pa_cons (pe_callB call_len (by rfl) B.len PySem.boot_len (pa_cons (pv 1) pa_nil)) pa_nil))
            (blkOk_by (N := ["_law_found", "_law_due", "_law_same_kind", "_law_k"]) (sc := defScope sAl) (by decide +kernel)) (fun _ _ _ _ _ => pg_name (i := 3) scAl.nd rfl (.inl rfl))
            (fun _ _ _ _ _ => pts_one (pt_not (pt_val (pe_call G hr (by rfl) mG F.kp bG .nil pass0 (pa_cons (pe_ix ix_seq (pv 0) (pv 3) (fun _ _ => rfl)) (pa_cons (pe_ix ix_seq (pv 1) (pv 3) (fun _ _ => rfl)) pa_nil)))))) (fun _ _ _ _ _ => pv 3)) (pe_lst pa_nil) (nomark _)))))) pss_nil)
      (pss_cons (ps_if (PW.pt (pw_or (pt_cmpR op_isN (pv 1) pe_non (nomark _)) (pw_or1 (pt_cmpR op_isN (pv 0) pe_non (nomark _))))) (pss_one (ps_ret (pe_and (pe_cmpR op_isN (pv 1) pe_non (nomark _)) (pe_one (pe_cmpR op_isN (pv 0) pe_non (nomark _)))))) pss_nil)
      (pss_cons (ps_set (i := 2) scAl.nd rfl (.inl rfl) (pe_cmpR op_eq (pe_callB call_isi (by rfl) B.isi (by decide +kernel) (pa_cons (pv 1) (pa_cons (pe_bltn (v := .ty "str") rfl B.str (by decide +kernel) rfl) pa_nil))) (pe_callB call_isi (by rfl) B.isi (by decide +kernel) (pa_cons (pv 0) (pa_cons (pe_bltn (v := .ty "str") rfl B.str (by decide +kernel) rfl) pa_nil))) (nomark _)))
      (pss_one (ps_ret (pe_and (pv 2) (pe_and (pe_cmpR op_eq (pe_callB call_isi (by rfl) B.isi (by decide +kernel) (pa_cons (pv 1) (pa_cons (pe_bltn (v := .ty "bool") rfl B.bool (by decide +kernel) rfl) pa_nil))) (pe_callB call_isi (by rfl) B.isi (by decide +kernel) (pa_cons (pv 0) (pa_cons (pe_bltn (v := .ty "bool") rfl B.bool (by decide +kernel) rfl) pa_nil))) (nomark _))
        (pe_one (pe_cmpR op_eq (pv 0) (pv 1) (nomark _))))))))), ?_⟩
    have clsTL : Paired ClsV [.ty "tuple", .ty "list"] [.type "tuple", .type "list"] := .cons (.ty _) (.cons (.ty _) .nil)
    cases d with
    | none =>
      cases hx
      cases hy
      refine ⟨_, rfl, (by show 2 ≤ sizeLine; decide), fun N hN => ?_⟩
      have sN := same_new hN (.tup [.ty "tuple", .ty "list"])
      refine ⟨_, N, _, .type "NoneType", _, false, rfl, upd_same, clsTL, .base (.non), kit2 (by decide +kernel) (by decide +kernel), false, rfl, iteF ?_⟩
      refine ⟨_, rfl, rfl, _, rfl, iteT ?_⟩
      refine ⟨_, rfl, rfl, _, rfl, iteT ?_⟩
      exact ⟨_, rfl, rfl, q _ sN⟩
    | bool v =>
      cases hx
      cases hy
      refine ⟨_, rfl, (by show 2 ≤ sizeLine; decide), fun N hN => ?_⟩
      have sN := same_new hN (.tup [.ty "tuple", .ty "list"])
      refine ⟨_, N, _, .type "bool", _, false, rfl, upd_same, clsTL, .base (.bl _), kit2 (by decide +kernel) (by decide +kernel), false, rfl, iteF ?_⟩
      have nn : decide (V.bl v = V.non) = false := decide_eq_false (fun z => by cases z)
      refine ⟨_, rfl, rfl, _, rfl, ?_⟩
      rw [nn]
      refine iteF ?_
      refine ⟨_, rfl, rfl, _, rfl, ?_⟩
      rw [nn]
      refine iteF ?_
      refine ⟨_, rfl, _, _, .type "bool", _, false, rfl, ClsV.ty _, .base (.bl _), kit_ty (by decide +kernel), _, rfl, _, _, .type "bool", _, false, rfl, ClsV.ty _, .base (.bl _), kit_ty (by decide +kernel), rfl, ?_⟩
      refine ⟨_, rfl, true, rfl, iteT ?_⟩
      refine ⟨_, rfl, _, _, .type "bool", _, true, rfl, ClsV.ty _, .base (.bl _), kit_ty (by decide +kernel), _, rfl, _, _, .type "bool", _, true, rfl, ClsV.ty _, .base (.bl _), kit_ty (by decide +kernel), rfl, true, rfl, iteT ?_⟩
      refine ⟨_, rfl, _, rfl, rfl, ?_⟩
      rw [decide_eq_true rfl]
      exact q _ sN
    | int v =>
      cases hx
      cases hy
      refine ⟨_, rfl, (by show 2 ≤ sizeLine; decide), fun N hN => ?_⟩
      have sN := same_new hN (.tup [.ty "tuple", .ty "list"])
      refine ⟨_, N, _, .type "int", _, false, rfl, upd_same, clsTL, .base (.int _), kit2 (by decide +kernel) (by decide +kernel), false, rfl, iteF ?_⟩
      have nn : decide (V.int v = V.non) = false := decide_eq_false (fun z => by cases z)
      refine ⟨_, rfl, rfl, _, rfl, ?_⟩
      rw [nn]
      refine iteF ?_
      refine ⟨_, rfl, rfl, _, rfl, ?_⟩
      rw [nn]
      refine iteF ?_
      refine ⟨_, rfl, _, _, .type "int", _, false, rfl, ClsV.ty _, .base (.int _), kit_ty (by decide +kernel), _, rfl, _, _, .type "int", _, false, rfl, ClsV.ty _, .base (.int _), kit_ty (by decide +kernel), rfl, ?_⟩
      refine ⟨_, rfl, true, rfl, iteT ?_⟩
      refine ⟨_, rfl, _, _, .type "int", _, false, rfl, ClsV.ty _, .base (.int _), kit_ty (by decide +kernel), _, rfl, _, _, .type "int", _, false, rfl, ClsV.ty _, .base (.int _), kit_ty (by decide +kernel), rfl, true, rfl, iteT ?_⟩
      refine ⟨_, rfl, _, rfl, rfl, ?_⟩
      rw [decide_eq_true rfl]
      exact q _ sN
    | str v =>
      cases hx
      cases hy
      refine ⟨_, rfl, (by show 2 ≤ sizeLine; decide), fun N hN => ?_⟩
      have sN := same_new hN (.tup [.ty "tuple", .ty "list"])
      refine ⟨_, N, _, .type "str", _, false, rfl, upd_same, clsTL, .base (.str _), kit2 (by decide +kernel) (by decide +kernel), false, rfl, iteF ?_⟩
      have nn : decide (V.str v = V.non) = false := decide_eq_false (fun z => by cases z)
      refine ⟨_, rfl, rfl, _, rfl, ?_⟩
      rw [nn]
      refine iteF ?_
      refine ⟨_, rfl, rfl, _, rfl, ?_⟩
      rw [nn]
      refine iteF ?_
      refine ⟨_, rfl, _, _, .type "str", _, true, rfl, ClsV.ty _, .base (.str _), kit_ty (by decide +kernel), _, rfl, _, _, .type "str", _, true, rfl, ClsV.ty _, .base (.str _), kit_ty (by decide +kernel), rfl, ?_⟩
      refine ⟨_, rfl, true, rfl, iteT ?_⟩
      refine ⟨_, rfl, _, _, .type "str", _, false, rfl, ClsV.ty _, .base (.str _), kit_ty (by decide +kernel), _, rfl, _, _, .type "str", _, false, rfl, ClsV.ty _, .base (.str _), kit_ty (by decide +kernel), rfl, true, rfl, iteT ?_⟩
      refine ⟨_, rfl, _, rfl, rfl, ?_⟩
      rw [decide_eq_true rfl]
      exact q _ sN
    | list ds =>
      cases hx with
      | @lst xa xs _ hxs dx =>
      cases hy with
      | @lst ya ys _ hys dy =>
      cases hF with
      | lst hlen hFs =>
      have lx := dpa_len dx
      have ly := dpa_len dy
      have hd' : PyData.depthAll ds + 1 < n + 1 := hd
      refine ⟨_, rfl, (by show 2 ≤ sizeLine; decide), fun N hN => ?_⟩
      have sN := same_new hN (.tup [.ty "tuple", .ty "list"])
      refine ⟨_, N, _, .type "list", _, true, rfl, upd_same, clsTL, ty_list (Same.seq sN hys), kit2 (by decide +kernel) (by decide +kernel), true, rfl, iteT ?_⟩
      refine ⟨_, rfl, _, _, .type "list", _, false, rfl, ClsV.ty _, ty_list (Same.seq sN hxs), kit_ty (by decide +kernel), _, rfl, _, _, .type "list", _, false, rfl, ClsV.ty _, ty_list (Same.seq sN hys), kit_ty (by decide +kernel), rfl, _, rfl, iteF ?_⟩
      refine ⟨_, rfl, (by show 2 ≤ sizeLine; decide), fun M hM => ?_⟩
      have sM := sN.trans (same_new hM (.tup [.ty "tuple", .ty "list"]))
      refine ⟨_, M, _, .type "list", _, true, rfl, upd_same, clsTL, ty_list (Same.seq sM hxs), kit2 (by decide +kernel) (by decide +kernel), true, rfl, iteF ?_⟩
      refine ⟨_, rfl, _, _, rfl, .inl ⟨_, Same.seq sM hxs, rfl⟩, _, rfl, _, _, rfl, .inl ⟨_, Same.seq sM hys, rfl⟩, rfl, _, rfl, ?_⟩
      rw [lx, ly, decide_eq_true rfl]
      refine iteF ?_
      refine ⟨_, rfl, _, _, rfl, .inl ⟨_, Same.seq sM hys, rfl⟩, _, rfl, by omega, by rw [ly]; omega, fun D hD => ?_⟩
      refine lc_it (walk_range) (fun i H2 => H2 D = some (.lst []) ∧ Same H H2) ?_ (fun _ _ _ _ => trivial) ?_ ?_
      · exact ⟨upd_same, sM.trans (same_new hD _)⟩
      · rintro i v H2 H2' hi ⟨e1, e2⟩ ⟨rfl, rfl⟩
        have hi2 : i < ds.length := by rw [ly] at hi; omega
        obtain ⟨vx, gx, px⟩ := dpa_at dx (List.getElem?_eq_getElem hi2)
        obtain ⟨vy, gy, py⟩ := dpa_at dy (List.getElem?_eq_getElem hi2)
        have hm : ds[i] ∈ ds := List.getElem_mem hi2
        refine ⟨rfl, ?_⟩
        refine ⟨_, rfl, _, rfl, .inl ⟨xa, _, _, _, rfl, rfl, Same.seq e2 hxs, atI_of gx (by omega), ?_⟩⟩
        refine ⟨_, rfl, _, rfl, .inl ⟨ya, _, _, _, rfl, rfl, Same.seq e2 hys, atI_of gy (by omega), ?_⟩⟩
        refine ⟨vx, vy, ds[i], rfl, dp_same e2 px, dp_same e2 py, hFs _ hm, by have := depth_mem hm; omega, fun H3 s3 => ?_⟩
        exact ⟨true, rfl, iteF ⟨s3 _ _ e1, e2.trans s3⟩⟩
      · rintro H2 ⟨e1, e2⟩
        refine ⟨(by show 0 ≤ sizeLine; decide), fun E' hE => ?_⟩
        have sE := same_new hE (.lst [])
        refine ⟨.list [], .list [], .lst (.inl (.inl (sE _ _ e1))) .nil, .lst (.inl (.inl upd_same)) .nil, by decide +kernel, by decide +kernel, ?_⟩
        exact q _ (e2.trans sE)
    | tuple ds =>
      cases hx with
      | @tup xa xs _ hxs dx =>
      cases hy with
      | @tup ya ys _ hys dy =>
      cases hF with
      | tup hlen hFs =>
      have lx := dpa_len dx
      have ly := dpa_len dy
      have hd' : PyData.depthAll ds + 1 < n + 1 := hd
      refine ⟨_, rfl, (by show 2 ≤ sizeLine; decide), fun N hN => ?_⟩
      have sN := same_new hN (.tup [.ty "tuple", .ty "list"])
      refine ⟨_, N, _, .type "tuple", _, true, rfl, upd_same, clsTL, ty_tup (Same.seqT sN hys), kit2 (by decide +kernel) (by decide +kernel), true, rfl, iteT ?_⟩
      refine ⟨_, rfl, _, _, .type "tuple", _, true, rfl, ClsV.ty _, ty_tup (Same.seqT sN hxs), kit_ty (by decide +kernel), _, rfl, _, _, .type "tuple", _, true, rfl, ClsV.ty _, ty_tup (Same.seqT sN hys), kit_ty (by decide +kernel), rfl, _, rfl, iteF ?_⟩
      refine ⟨_, rfl, (by show 2 ≤ sizeLine; decide), fun M hM => ?_⟩
      have sM := sN.trans (same_new hM (.tup [.ty "tuple", .ty "list"]))
      refine ⟨_, M, _, .type "tuple", _, true, rfl, upd_same, clsTL, ty_tup (Same.seqT sM hxs), kit2 (by decide +kernel) (by decide +kernel), true, rfl, iteF ?_⟩
      refine ⟨_, rfl, _, _, rfl, .inr ⟨_, Same.seqT sM hxs, rfl⟩, _, rfl, _, _, rfl, .inr ⟨_, Same.seqT sM hys, rfl⟩, rfl, _, rfl, ?_⟩
      rw [lx, ly, decide_eq_true rfl]
      refine iteF ?_
      refine ⟨_, rfl, _, _, rfl, .inr ⟨_, Same.seqT sM hys, rfl⟩, _, rfl, by omega, by rw [ly]; omega, fun D hD => ?_⟩
      refine lc_it (walk_range) (fun i H2 => H2 D = some (.lst []) ∧ Same H H2) ?_ (fun _ _ _ _ => trivial) ?_ ?_
      · exact ⟨upd_same, sM.trans (same_new hD _)⟩
      · rintro i v H2 H2' hi ⟨e1, e2⟩ ⟨rfl, rfl⟩
        have hi2 : i < ds.length := by rw [ly] at hi; omega
        obtain ⟨vx, gx, px⟩ := dpa_at dx (List.getElem?_eq_getElem hi2)
        obtain ⟨vy, gy, py⟩ := dpa_at dy (List.getElem?_eq_getElem hi2)
        have hm : ds[i] ∈ ds := List.getElem_mem hi2
        refine ⟨rfl, ?_⟩
        refine ⟨_, rfl, _, rfl, .inr (.inl ⟨xa, _, _, _, rfl, rfl, Same.seqT e2 hxs, atI_of gx (by omega), ?_⟩)⟩
        refine ⟨_, rfl, _, rfl, .inr (.inl ⟨ya, _, _, _, rfl, rfl, Same.seqT e2 hys, atI_of gy (by omega), ?_⟩)⟩
        refine ⟨vx, vy, ds[i], rfl, dp_same e2 px, dp_same e2 py, hFs _ hm, by have := depth_mem hm; omega, fun H3 s3 => ?_⟩
        exact ⟨true, rfl, iteF ⟨s3 _ _ e1, e2.trans s3⟩⟩
      · rintro H2 ⟨e1, e2⟩
        refine ⟨(by show 0 ≤ sizeLine; decide), fun E' hE => ?_⟩
        have sE := same_new hE (.lst [])
        refine ⟨.list [], .list [], .lst (.inl (.inl (sE _ _ e1))) .nil, .lst (.inl (.inl upd_same)) .nil, by decide +kernel, by decide +kernel, ?_⟩
        exact q _ (e2.trans sE)
    | dict kvs => cases hF
theorem al_all {f : Addr} {fd : FuncData} (F : Fun K "_law_alike" "_law_alike" sAl f fd) (bG : Binds K fd psAl []) (mG : mg "_law_alike" = some (.ref f)) (B : Bn mg) : ∀ n : Nat, FnOk P w K mg base CX0 n f fd psAl (spAl K n)
  | 0 => by
    have no : ∀ vs H Q E, ¬ spAl K 0 vs H Q E := fun vs H Q E h => by
      obtain ⟨x, y, d, _, _, _, _, hd, _⟩ := h
      exact Nat.not_lt_zero _ hd
    exact ⟨fun vs H Q E h => absurd h (no vs H Q E), fun A outer s H args us vs Q E _ _ _ _ h => absurd h (no vs H Q E)⟩
  | n + 1 => ok_al F (al_all F bG mG B n) bG mG B
end
end Say
namespace SrtT
open PySem PySem.Spec PyProof.Rows L2 SrtO
/-- by the first text, then by the second -/
def lexT (p q : Str × Str) : Bool := if p.1 = q.1 then decide (p.2.cps.toList < q.2.cps.toList) else decide (p.1.cps.toList < q.1.cps.toList)
theorem str_of {x y : Str} (h : x.cps.toList = y.cps.toList) : x = y := TL.ext_tl h
theorem lexT_no {p q : Str × Str} : lexT p q = false ↔ (q.1.cps.toList < p.1.cps.toList ∨ (p.1 = q.1 ∧ q.2.cps.toList ≤ p.2.cps.toList)) := by
  unfold lexT
  by_cases h : p.1 = q.1
  · rw [if_pos h]
    constructor
    · intro z
      exact .inr ⟨h, List.not_lt.mp (of_decide_eq_false z)⟩
    · rintro (z | ⟨_, z⟩)
      · rw [h] at z
        exact absurd z (List.lt_irrefl _)
      · exact decide_eq_false (List.not_lt.mpr z)
  · rw [if_neg h]
    constructor
    · intro z
      have le := List.not_lt.mp (of_decide_eq_false z)
      refine .inl ?_
      refine Decidable.byContradiction fun n => h (str_of (List.le_antisymm (List.not_lt.mp n) le))
    · rintro (z | ⟨e, _⟩)
      · exact decide_eq_false (List.not_lt.mpr (List.le_of_lt z))
      · exact absurd e h
theorem lexT_yes {p q : Str × Str} (h : lexT p q = true) : p.1.cps.toList < q.1.cps.toList ∨ (p.1 = q.1 ∧ p.2.cps.toList < q.2.cps.toList) := by
  unfold lexT at h
  by_cases e : p.1 = q.1
  · rw [if_pos e] at h
    exact .inr ⟨e, of_decide_eq_true h⟩
  · rw [if_neg e] at h
    exact .inl (of_decide_eq_true h)
theorem swoT {α : Type} (k : α → Str × Str) : Swo fun v u => lexT (k v) (k u) := by
  refine ⟨fun x y h => ?_, fun x y z h1 h2 => ?_⟩
  · refine lexT_no.mpr ?_
    rcases lexT_yes h with q | ⟨e, q⟩
    · exact .inl q
    · exact .inr ⟨e.symm, List.le_of_lt q⟩
  · refine lexT_no.mpr ?_
    rcases lexT_no.mp h1 with a | ⟨e, a⟩
    · rcases lexT_no.mp h2 with b | ⟨e', b⟩
      · exact .inl (List.lt_trans a b)
      · exact .inl (by rw [e']; exact a)
    · rcases lexT_no.mp h2 with b | ⟨e', b⟩
      · exact .inl (by rw [← e]; exact b)
      · exact .inr ⟨e'.trans e, List.le_trans a b⟩
/-- v is a tuple of the two texts -/
def IsTx (h : Heap) (v : Value) (x y : Str) : Prop := ∃ a o t u n, v = .ref a ∧ h.get? a = some o ∧ o.cls = .type "tuple" ∧ o.data = .seq #[.str x t, .str y u] n
theorem IsTx.keeps {h h' : Heap} {v : Value} {x y : Str} (p : IsTx h v x y) (k : ∀ b o, h.get? b = some o → o.cls = .type "tuple" → h'.get? b = some o) : IsTx h' v x y := by
  obtain ⟨a, o, t, u, n, e, obO, clC, dtD⟩ := p
  exact ⟨a, o, t, u, n, e, k _ _ obO clC, clC, dtD⟩
section
variable {prog : Program} {w : World} {A : Around} {E : Value → Shared → Prop} {s : Shared}
theorem tx_cmp {vs : List Value} {k : Value → Str × Str} (txP : ∀ v ∈ vs, IsTx s.heap v (k v).1 (k v).2) : Cmp prog w A s (tuples' true) (fun p => p.1 ∈ vs) (lt2 fun v u => lexT (k v) (k u)) := by
  intro p q hm hm'
  have h1 := txP _ hm
  have h2 := txP _ hm'
  show wpAny (model prog w) A (keyLt' (tuples' true) p.1 q.1) (fun r s' => s' = s ∧ r = lexT (k p.1) (k q.1)) (fun _ _ => False) s
  unfold lexT
  generalize (k p.1).1 = x at h1 ⊢
  generalize (k p.1).2 = y at h1 ⊢
  generalize (k q.1).1 = x' at h2 ⊢
  generalize (k q.1).2 = y' at h2 ⊢
  obtain ⟨a, o, t, u, n, e, obO, clC, dtD⟩ := h1
  obtain ⟨a', o', t', u', n', e', ho', hc', hd'⟩ := h2
  rw [e, e']
  refine PySem.W.kat_lt obO dtD ho' hd' ?_
  show PySem.W.KatLex prog w A true (decide (2 < 2)) _ [(.str x t, .str x' t'), (.str y u, .str y' u')] 0 s
  refine PySem.W.kat_cons (SeqAt.EqAt.str_str x t x' t' prog w _ _ ?_)
  refine PySem.W.kat_go (fun q1 => ?_) (fun q1 => ?_)
  · have ex : x = x' := by simpa using q1
    refine PySem.W.kat_yes (PySem.W.kat_cons (SeqAt.EqAt.str_str y u y' u' prog w _ _ ?_))
    refine PySem.W.kat_go (fun q2 => ?_) (fun q2 => ?_)
    · have ey : y = y' := by simpa using q2
      have q3 : (if x = x' then decide (y.cps.toList < y'.cps.toList) else decide (x.cps.toList < x'.cps.toList)) = false := by
        rw [if_pos ex, ey]
        exact decide_eq_false (List.lt_irrefl _)
      exact PySem.W.kat_yes (PySem.W.kat_nil ⟨rfl, q3.symm⟩)
    · have q3 : (if x = x' then decide (y.cps.toList < y'.cps.toList) else decide (x.cps.toList < x'.cps.toList)) = decide (y.cps.toList < y'.cps.toList) := if_pos ex
      refine PySem.W.kat_no (PySem.W.kat_one _ _ (PyProof.Rows.lt_str ?_))
      exact (show s = s ∧ decide (y.cps.toList < y'.cps.toList) = (if x = x' then decide (y.cps.toList < y'.cps.toList) else decide (x.cps.toList < x'.cps.toList)) from ⟨rfl, q3.symm⟩)
  · have ex : ¬ x = x' := by simpa using q1
    have q3 : (if x = x' then decide (y.cps.toList < y'.cps.toList) else decide (x.cps.toList < x'.cps.toList)) = decide (x.cps.toList < x'.cps.toList) := if_neg ex
    exact PySem.W.kat_no (oneLt_str ⟨rfl, q3.symm⟩)
theorem firsts_tx {h : Heap} : ∀ {vs : List Value}, (∀ v ∈ vs, ∃ x y, IsTx h v x y) → ∃ fs, PySem.W.KatTups h vs fs ∧ fs.length = vs.length ∧ ∀ f ∈ fs, ∃ x t, f = Value.str x t
  | [], _ => ⟨[], trivial, rfl, fun _ h => nomatch h⟩
  | v :: vs, txP => by
    obtain ⟨x, y, a, o, t, u, n, rfl, obO, clC, dtD⟩ := txP v (List.mem_cons_self ..)
    obtain ⟨fs, h1, h2, h3⟩ := firsts_tx (vs := vs) fun v inV => txP v (List.mem_cons_of_mem _ inV)
    refine ⟨.str x t :: fs, .cons obO clC dtD rfl h1, by simp [h2], fun f fresh0 => ?_⟩
    rcases List.mem_cons.mp fresh0 with rfl | fresh0
    · exact ⟨_, _, rfl⟩
    · exact h3 f fresh0
theorem tx_sortable {a : Addr} {vs : List Value} {k : Value → Str × Str} (h0 : 0 < vs.length) (txP : ∀ v ∈ vs, IsTx s.heap v (k v).1 (k v).2) (atA : ∀ o, s.heap.get? a = some o → o.cls ≠ .type "tuple") : SortableO prog w A s a vs fun v u => lexT (k v) (k u) := by
  intro h' keep
  have hp' : ∀ v ∈ vs, IsTx h' v (k v).1 (k v).2 := fun v hm => (txP v hm).keeps fun b o e c => keep b o (fun z => by subst z; exact atA o e c) e
  obtain ⟨fs, h1, h2, h3⟩ := firsts_tx fun v hm => ⟨_, _, hp' v hm⟩
  refine ⟨tuples' true, fun Q E isT => ?_, tx_cmp hp'⟩
  refine PySem.W.kat_kind (T := .type "str") h1 (by omega) (fun f hm => ?_) (by rfl) ?_
  · obtain ⟨x, t, rfl⟩ := h3 f hm
    exact PySem.W.Looks.now
  · have e : (Value.type "str" != Value.type "tuple") = true := by first | decide +kernel | rfl | decide
    rw [e]
    exact isT
end
/-- the texts of a tuple of two -/
def txOf (h : Heap) (v : Value) : Str × Str := match v with
  | .ref a => match h.get? a with
    | some o => match o.data with
      | .seq its _ => match its.toList with
        | [.str x _, .str y _] => (x, y)
        | _ => (Str.empty, Str.empty)
      | _ => (Str.empty, Str.empty)
    | none => (Str.empty, Str.empty)
  | _ => (Str.empty, Str.empty)
theorem IsTx.tx {h : Heap} {v : Value} {x y : Str} (p : IsTx h v x y) : txOf h v = (x, y) := by
  obtain ⟨a, o, t, u, n, rfl, obO, clC, dtD⟩ := p
  unfold txOf
  simp only [obO, dtD]
end SrtT
namespace Say
open PySem PySem.Spec PyProof.Rows L2 L2.DX
section
variable {X : Cx}
/-- d.items() of a dict with int and text keys -/
def rItemsK : V → List V → Hp → VK → Prop := fun x xs H Q => ∃ (a : Addr) (kvs : List (Key × V)), x = .ref a ∧ xs = [] ∧ H a = some (.dK kvs) ∧ ∀ p, H p = none → Q (.ref p) (upd H p (itemsO p a))
theorem mt_itemsK : MtR X "dict.items" rItemsK := by
  intro pn s σ H x xs v args Q I rx rxs h
  obtain ⟨a, kvs, rfl, rfl, atA, q⟩ := h
  cases rx
  cases rxs
  obtain ⟨szT, dtD, vs, kv, o, es, ep, obO, atI0, hdat, _⟩ := (show ObjOk X.prog X.w H s.heap a (.dK kvs) from I.hok a _ atA)
  refine DT.callItems (es := es) (ep := ep) dtD ⟨o, obO, atI0, hdat⟩ ?_
  have fresh0 : H s.heap.objs.size = none := I.hok.fresh (Nat.le_refl _)
  exact ⟨.ref s.heap.objs.size, upd H s.heap.objs.size (itemsO s.heap.objs.size a), I.laid (t' := s.toks) (fun b u e => Heap.get?_push_of_some _ e) (Nat.le_refl _) (itemsO_ok (Heap.get?_push_size _ rfl)), rfl, q _ fresh0⟩
abbrev entS (e : Str × Str) : Key × V := (Sum.inr e.1, V.str e.2)
/-- sorted(d.items()), keys and values texts -/
def rSortTx : List V → Hp → VK → Prop := fun vs H Q => ∃ (p a : Addr) (es : List (Str × Str)), vs = [.ref p] ∧ H p = some (itemsO p a) ∧ H a = some (.dK (es.map entS)) ∧ es.length ≤ 1000 ∧
  ∀ (H' : Hp) (l : Addr) (ps : List (Addr × Str × Str)), (∀ b o, H b = some o → H' b = some o) → (ps.map (·.2)).Perm es → (ps.map (·.2)).Pairwise (fun e f => SrtT.lexT f e = false) → H l = none → H' l = some (.lst (ps.map fun z => V.ref z.1)) →
    (∀ z ∈ ps, H' z.1 = some (.tup [.str z.2.1, .str z.2.2])) → Q (.ref l) H'
theorem key_txt {x : Str} {v : Value} (h : keyIs (Sum.inr x : Key) v = true) : ∃ t, v = .str x t := by
  rcases keyIs_shape h with ⟨i, t, e, rfl⟩ | ⟨y, t, e, rfl⟩
  · cases e
  · cases e
    exact ⟨t, rfl⟩
theorem ent_at {P : Program} {w : World} : ∀ {l : List DictEntry} {vs : List (Key × Value)} {ks : List (Str × Str)}, Pairs (mixKind P w) l vs → KV (ks.map entS) vs → Paired (fun (e : DictEntry) (k : Str × Str) => (∃ t, e.key = .str k.1 t) ∧ ∃ u, e.val = .str k.2 u) l ks
  | [], _, ks, .nil, kv => by
    cases ks with
    | nil => exact .nil
    | cons k r => cases kv
  | e :: l, _, ks, .cons h1 h2 h3, kv => by
    cases ks with
    | nil => cases kv
    | cons k r =>
      cases kv with
      | cons g1 g2 =>
        refine .cons ⟨?_, ?_⟩ (ent_at h3 g2)
        · obtain ⟨g3, g4⟩ := g1
          rw [← g3] at h1
          exact key_txt h1
        · rw [h2]
          exact g1.2
def adr : Value → Addr
  | .ref a => a
  | _ => 0
theorem cr_sortedTx (clC : X.calm = true) : CallR X (.builtin "sorted") rSortTx := by
  intro pn s σ H xs args Q I r h
  obtain ⟨p, a, ks, rfl, txP, atA, h64, q⟩ := h
  obtain rfl := Vals.ref1 r
  have vw : s.heap.IsItemsView p a := (show ObjOk X.prog X.w H s.heap p (itemsO p a) from I.hok p _ txP).1
  obtain ⟨szT, dtD, vs, kv, o, es, ep, obO, atI0, hdat, hKo, hPs, hn⟩ := (show ObjOk X.prog X.w H s.heap a (.dK (ks.map entS)) from I.hok a _ atA)
  have ents := ent_at hPs kv
  have l0 : es.size = ks.length := by rw [← Array.length_toList]; exact paired_len ents
  have noH : X.A.handled = none := I.ok.hd clC
  refine DT.sortedI (es := es) (ep := ep) noH vw ⟨o, obO, atI0, hdat⟩ (by rw [sizeLine_eq]; omega) fun h' tkn adrs kpT ltN lnT mdG => ?_
  have lenA : adrs.length = ks.length := by omega
  have nodupA : adrs.Nodup := List.Pairwise.imp (fun h => Nat.ne_of_lt h) mdG.rise
  have prs : ∀ (j : Nat) (b : Addr), adrs[j]? = some b → ∃ (e : Str × Str) (t u : Tok), ks[j]? = some e ∧ h'.get? b = some { cls := .type "tuple", data := .seq #[Value.str e.1 t, Value.str e.2 u] } := by
    intro j b atJ
    obtain ⟨en', hEn, gW⟩ := mdG.pairs j b atJ
    rw [← Array.getElem?_toList] at hEn
    obtain ⟨e, q1, ⟨t, q2⟩, ⟨u, q3⟩⟩ := paired_at ents hEn
    exact ⟨e, t, u, q1, by rw [gW, q2, q3]⟩
  have atL : (h'.push { cls := .type "list", data := .seq (adrs.map Value.ref).toArray }).get? h'.objs.size = some (seqObj "list" (adrs.map Value.ref).toArray 0) := Heap.get?_push_size _ rfl
  have kpS : ∀ b o, s.heap.get? b = some o → (h'.push { cls := .type "list", data := .seq (adrs.map Value.ref).toArray }).get? b = some o := fun b o e => Heap.get?_push_of_some _ (kpT b o e)
  have neL : ∀ b o, h'.get? b = some o → b ≠ h'.objs.size := fun b o e => Nat.ne_of_lt (Heap.lt_size e)
  generalize hh2 : h'.push { cls := .type "list", data := .seq (adrs.map Value.ref).toArray } = h2 at atL kpS ⊢
  have kpM : ∀ b o, h'.get? b = some o → h2.get? b = some o := fun b o e => by rw [← hh2]; exact Heap.get?_push_of_some _ e
  have pin : ∀ (j : Nat) (b : Addr) (e : Str × Str), adrs[j]? = some b → ks[j]? = some e → SrtT.IsTx h2 (.ref b) e.1 e.2 := by
    intro j b e atJ hEn
    obtain ⟨e', t, u, he', gW⟩ := prs j b atJ
    cases he'.symm.trans hEn
    exact ⟨b, _, t, u, 0, rfl, kpM _ _ gW, rfl, rfl⟩
  have allTx : ∀ v ∈ adrs.map Value.ref, SrtT.IsTx h2 v (SrtT.txOf h2 v).1 (SrtT.txOf h2 v).2 := by
    intro v hv'
    obtain ⟨b, hb, rfl⟩ := List.mem_map.mp hv'
    obtain ⟨j, atJ⟩ := List.mem_iff_getElem?.mp hb
    obtain ⟨e, t, u, hEn, _⟩ := prs j b atJ
    have := pin j b e atJ hEn
    rw [this.tx]
    exact this
  have mapTx : (adrs.map Value.ref).map (SrtT.txOf h2) = ks := by
    refine List.ext_getElem? fun j => ?_
    rw [List.getElem?_map, List.getElem?_map]
    cases atJ : adrs[j]? with
    | none =>
      have := List.getElem?_eq_none_iff.mp atJ
      rw [List.getElem?_eq_none (by omega)]
      rfl
    | some b =>
      obtain ⟨e, t, u, hEn, _⟩ := prs j b atJ
      rw [hEn]
      show some (SrtT.txOf h2 (.ref b)) = some e
      rw [(pin j b e atJ hEn).tx]
  refine wpAny_call_entry PyProof.Rows.slot_list_sort ⟨_, atL, rfl⟩ PyProof.Rows.entry_list_sort
    (SrtO.list_sort_ord (s := { s with heap := h2, toks := tkn }) (SrtT.swoT (SrtT.txOf h2)) atL (by rw [List.length_map, sizeLine_eq]; omega) (fun h2' => SrtT.tx_sortable (by omega) allTx fun o e => ?_) fun out o1 o2 => ⟨.none, rfl, ?_⟩) (PyProof.Rows.args_list_sort _)
  · have e : h2.get? h'.objs.size = some o := e
    rw [atL] at e
    cases e
    intro c
    exact absurd (Value.type.inj c) (by decide)
  · show EP X pn σ Q (.ref h'.objs.size) { s with heap := sortedHeap h2 h'.objs.size (adrs.map Value.ref) out.toArray, toks := tkn }
    have hrf : ∀ v ∈ out, v = .ref (adr v) := fun v inV => by
      obtain ⟨b, _, rfl⟩ := List.mem_map.mp (o2.perm.mem_iff.mp inV)
      rfl
    have kpF : ∀ b o, b ≠ h'.objs.size → h2.get? b = some o → (sortedHeap h2 h'.objs.size (adrs.map Value.ref) out.toArray).get? b = some o := fun b o hb e => (PyProof.Rows.sortedHeap_old hb (Heap.lt_size e)).trans e
    have kpAll : ∀ b o, s.heap.get? b = some o → (sortedHeap h2 h'.objs.size (adrs.map Value.ref) out.toArray).get? b = some o := fun b o e => kpF b o (neL _ _ (kpT b o e)) (kpS b o e)
    obtain ⟨sdF, atF⟩ := PyProof.Rows.sortedHeap_at (vs := adrs.map Value.ref) (out := out.toArray) atL
    have I1 : Inv X pn σ H { s with heap := sortedHeap h2 h'.objs.size (adrs.map Value.ref) out.toArray, toks := tkn } := I.kept (t' := tkn) kpAll
    have noL : H h'.objs.size = none := I.hok.fresh (Nat.le_of_lt ltN)
    have prm : ((out.map fun v => (adr v, SrtT.txOf h2 v)).map (·.2)).Perm ks := by
      have e := o2.perm.map (SrtT.txOf h2)
      rw [mapTx] at e
      rw [List.map_map]
      exact e
    have srtd0 : ((out.map fun v => (adr v, SrtT.txOf h2 v)).map (·.2)).Pairwise (fun e f => SrtT.lexT f e = false) := by
      rw [List.map_map, List.pairwise_map]
      exact o1
    have len0 : ((out.map fun v => (adr v, SrtT.txOf h2 v)).map fun z => V.ref z.1).length ≤ sizeLine := by
      have e := prm.length_eq
      rw [List.length_map] at e
      rw [List.length_map, sizeLine_eq]
      omega
    have rel : ∀ l : List Value, (∀ v ∈ l, v = .ref (adr v)) → Vals ((l.map fun v => (adr v, SrtT.txOf h2 v)).map fun z => V.ref z.1) l := by
      intro l
      induction l with
      | nil => intro _; exact .nil
      | cons v l ih =>
        intro inV
        refine .cons ?_ (ih fun u getU => inV u (List.mem_cons_of_mem _ getU))
        have := inV v (List.mem_cons_self ..)
        exact this
    have I2 : Inv X pn σ (upd H h'.objs.size (.lst ((out.map fun v => (adr v, SrtT.txOf h2 v)).map fun z => V.ref z.1))) { s with heap := sortedHeap h2 h'.objs.size (adrs.map Value.ref) out.toArray, toks := tkn } :=
      I1.take (h' := sortedHeap h2 h'.objs.size (adrs.map Value.ref) out.toArray) (t' := tkn) (fun b ob _ e => e) (I.fpOk (Nat.le_of_lt ltN) noL) ⟨len0, out, sdF, rel out hrf, atF⟩
    obtain ⟨H2, I3, g, tps⟩ := takeT (P := fun b vs => ∃ (j : Nat) (e : Str × Str), adrs[j]? = some b ∧ ks[j]? = some e ∧ vs = [.str e.1, .str e.2]) I adrs _ I2 nodupA fun b hb => by
      obtain ⟨j, atJ⟩ := List.mem_iff_getElem?.mp hb
      obtain ⟨e, t, u, hEn, gW⟩ := prs j b atJ
      have geB : s.heap.objs.size ≤ b := Nat.le_of_lt (mdG.above b hb)
      refine ⟨geB, ?_, [.str e.1, .str e.2], ⟨j, e, atJ, hEn, rfl⟩, fun H3 => ⟨(by rw [sizeLine_eq]; show 2 ≤ 16777216; omega), [Value.str e.1 t, Value.str e.2 u], .cons ⟨t, rfl⟩ (.cons ⟨u, rfl⟩ .nil), ⟨_, kpF _ _ (neL _ _ gW) (kpM _ _ gW), rfl, 0, rfl⟩⟩⟩
      rw [upd_ne (neL _ _ gW)]
      exact I.hok.fresh geB
    have grow : ∀ b o, H b = some o → H2 b = some o := fun b o e => g b o (by rw [upd_ne (ne_of_none e noL)]; exact e)
    refine ⟨.ref h'.objs.size, H2, I3, rfl, q H2 h'.objs.size _ grow prm srtd0 noL (g _ _ upd_same) fun z' hz' => ?_⟩
    obtain ⟨v, inV, rfl⟩ := List.mem_map.mp hz'
    obtain ⟨b, hb, e⟩ := List.mem_map.mp (o2.perm.mem_iff.mp inV)
    subst e
    obtain ⟨vs', ⟨j, e, j1, j2, ev⟩, hH⟩ := tps b hb
    show H2 b = some (.tup [.str (SrtT.txOf h2 (.ref b)).1, .str (SrtT.txOf h2 (.ref b)).2])
    rw [(pin j b e j1 j2).tx, hH, ev]
end
end Say
namespace Say
open PySem PySem.Spec PyProof.Rows L2
/-! ### the exceptions of a dict -/
def ent (e : Exc) : Key × V := (Sum.inr (T e.1), V.str (T e.2))
def putE (es : List Exc) (wd so : List Nat) : List Exc := if (es.any fun e => decide (e.1 = wd)) = true then es.map (fun e => if e.1 = wd then (e.1, so) else e) else es ++ [(wd, so)]
theorem key_eq {a b : List Nat} : ((Sum.inr (T a) : Key) = Sum.inr (T b)) ↔ a = b := ⟨fun h => T_inj (Sum.inr.inj h), fun h => by rw [h]⟩
theorem any_ent (wd : List Nat) : ∀ es : List Exc, ((es.map ent).any fun kv => decide (kv.1 = (Sum.inr (T wd) : Key))) = es.any fun e => decide (e.1 = wd)
  | [] => rfl
  | e :: r => by
    rw [List.map_cons, List.any_cons, List.any_cons, any_ent wd r]
    congr 1
    exact decide_eq_decide.mpr key_eq
theorem put_ent (es : List Exc) (wd so : List Nat) : putK (es.map ent) (Sum.inr (T wd) : Key) (V.str (T so)) = (putE es wd so).map ent := by
  unfold putK putE
  rw [any_ent]
  by_cases c : (es.any fun e => decide (e.1 = wd)) = true
  · rw [if_pos c, if_pos c, List.map_map, List.map_map]
    refine List.map_congr_left fun e _ => ?_
    show (if (ent e).1 = (Sum.inr (T wd) : Key) then ((ent e).1, V.str (T so)) else ent e) = ent (if e.1 = wd then (e.1, so) else e)
    by_cases h : e.1 = wd
    · rw [if_pos h, if_pos (show (ent e).1 = (Sum.inr (T wd) : Key) from key_eq.mpr h)]
      rfl
    · rw [if_neg h, if_neg (show ¬ (ent e).1 = (Sum.inr (T wd) : Key) from fun z => h (key_eq.mp z))]
  · rw [if_neg c, if_neg c, List.map_append]
    rfl
theorem putE_len (es : List Exc) (wd so : List Nat) : (putE es wd so).length ≤ es.length + 1 := by
  unfold putE
  split
  · rw [List.length_map]; omega
  · rw [List.length_append]; exact Nat.le_refl _
theorem putE_ok {L : List Nat} {es : List Exc} {wd so : List Nat} (h : ∀ e ∈ es, ExcOk L e) (h1 : ExcOk L (wd, so)) : ∀ e ∈ putE es wd so, ExcOk L e := by
  intro e he
  unfold putE at he
  split at he
  · obtain ⟨e', he', rfl⟩ := List.mem_map.mp he
    by_cases c : e'.1 = wd
    · rw [if_pos c, c]
      exact h1
    · rw [if_neg c]
      exact h e' he'
  · rcases List.mem_append.mp he with he | he
    · exact h e he
    · rw [List.mem_singleton.mp he]
      exact h1
theorem putE_nd {es : List Exc} {wd so : List Nat} (h : (es.map (·.1)).Nodup) : ((putE es wd so).map (·.1)).Nodup := by
  unfold putE
  split
  · rename_i c
    rw [List.map_map]
    have : es.map ((·.1) ∘ fun e : Exc => if e.1 = wd then (e.1, so) else e) = es.map (·.1) := List.map_congr_left fun e _ => by
      show (if e.1 = wd then (e.1, so) else e).1 = e.1
      split <;> rfl
    rw [this]
    exact h
  · rename_i c
    rw [List.map_append]
    refine List.nodup_append.mpr ⟨h, by simp, fun a ha b hb => ?_⟩
    intro z
    refine c (List.any_eq_true.mpr ?_)
    obtain ⟨e, he, rfl⟩ := List.mem_map.mp ha
    have hb : b = wd := by simpa using hb
    exact ⟨e, he, decide_eq_true (by rw [← hb]; exact z)⟩
/-- by its word there is one exception at most -/
theorem one_of {es : List Exc} (h : (es.map (·.1)).Nodup) {e f : Exc} (he : e ∈ es) (hf : f ∈ es) (hw : e.1 = f.1) : e = f := by
  obtain ⟨i, hi⟩ := List.mem_iff_getElem?.mp he
  obtain ⟨j, hj⟩ := List.mem_iff_getElem?.mp hf
  have e1 : (es.map (·.1))[i]? = some e.1 := by rw [List.getElem?_map, hi]; rfl
  have e2 : (es.map (·.1))[j]? = some e.1 := by rw [List.getElem?_map, hj, hw]; rfl
  have := nd_ix h e1 e2
  subst this
  exact Option.some.inj (hi.symm.trans hj)
theorem valV_ent {es : List Exc} (h : (es.map (·.1)).Nodup) {e : Exc} (he : e ∈ es) : valV (es.map ent) (Sum.inr (T e.1) : Key) = some (V.str (T e.2)) := by
  unfold valV
  cases hf : (es.map ent).find? fun kv => decide (kv.1 = (Sum.inr (T e.1) : Key)) with
  | none =>
    have := List.find?_eq_none.mp hf (ent e) (List.mem_map.mpr ⟨e, he, rfl⟩)
    exact absurd (decide_eq_true rfl) this
  | some kv =>
    have h1 := List.find?_some hf
    obtain ⟨f, hfm, rfl⟩ := List.mem_map.mp (List.mem_of_find?_eq_some hf)
    have h2 : f.1 = e.1 := key_eq.mp (of_decide_eq_true h1)
    rw [one_of h hfm he h2]
    rfl
theorem find_ent {es : List Exc} (h : (es.map (·.1)).Nodup) {e : Exc} (he : e ∈ es) : es.find? (fun f => decide (f.1 = e.1)) = some e := by
  cases hf : es.find? fun f => decide (f.1 = e.1) with
  | none => exact absurd (decide_eq_true rfl) (List.find?_eq_none.mp hf e he)
  | some f => rw [one_of h (List.mem_of_find?_eq_some hf) he (of_decide_eq_true (List.find?_some (p := fun f : Exc => decide (f.1 = e.1)) hf))]
/-! ### sorted -/
theorem uniq_sorted {α : Type} {r : α → α → Prop} (as : ∀ a b, r a b → ¬ r b a) : ∀ {l m : List α}, l.Perm m → l.Pairwise r → m.Pairwise r → l = m
  | [], m, p, _, _ => (List.Perm.eq_nil p.symm).symm
  | a :: l, [], p, _, _ => absurd p.length_eq (by simp)
  | a :: l, b :: m, p, h1, h2 => by
    have ha := p.mem_iff.mp (List.mem_cons_self (a := a) (l := l))
    have hb := p.mem_iff.mpr (List.mem_cons_self (a := b) (l := m))
    have e : a = b := by
      rcases List.mem_cons.mp ha with e | ha
      · exact e
      · rcases List.mem_cons.mp hb with e | hb
        · exact e.symm
        · exact absurd ((List.pairwise_cons.mp h1).1 b hb) (as _ _ ((List.pairwise_cons.mp h2).1 a ha))
    subst e
    rw [uniq_sorted as p.cons_inv (List.pairwise_cons.mp h1).2 (List.pairwise_cons.mp h2).2]
theorem lt_asym (a b : List Nat) (h : a < b) : ¬ b < a := List.lt_asymm h
theorem le_of_ltCps {a b : List Nat} (h : ltCps b a = false) : a ≤ b := by
  rw [ltCps_eq] at h
  exact List.not_lt.mp (of_decide_eq_false h)
theorem rising_pw : ∀ (l : List Str) (p : Str), risingS p l = true → (p :: l).Pairwise fun a b => a.cps.toList ≤ b.cps.toList
  | [], p, _ => List.pairwise_singleton _ _
  | x :: r, p, h => by
    have h : (!ltCps x.cps.toList p.cps.toList && risingS x r) = true := h
    rw [Bool.and_eq_true] at h
    have ih := rising_pw r x h.2
    have px : p.cps.toList ≤ x.cps.toList := le_of_ltCps (by simpa using h.1)
    refine List.pairwise_cons.mpr ⟨fun y hy => ?_, ih⟩
    rcases List.mem_cons.mp hy with rfl | hy
    · exact px
    · exact List.le_trans px ((List.pairwise_cons.mp ih).1 y hy)
theorem sortedS_pw : ∀ {l : List Str}, sortedS l = true → l.Pairwise fun a b => a.cps.toList ≤ b.cps.toList
  | [], _ => .nil
  | x :: r, h => rising_pw r x h
def wordsS (es : List Exc) : List Str := es.map fun e => T e.1
theorem strict_words {es : List Exc} (up : es.Pairwise fun e f => e.1 < f.1) : (wordsS es).Pairwise fun a b => a.cps.toList < b.cps.toList := by
  unfold wordsS
  rw [List.pairwise_map]
  exact up
theorem strict_of {l : List Str} (h : l.Pairwise fun a b => a.cps.toList ≤ b.cps.toList) (nd : l.Nodup) : l.Pairwise fun a b => a.cps.toList < b.cps.toList := by
  refine List.Pairwise.imp_of_mem (fun {a b} _ _ h => ?_) (List.Pairwise.and h nd)
  obtain ⟨h1, h2⟩ := h
  refine Decidable.byContradiction fun n => h2 (TL.ext_tl (List.le_antisymm h1 (List.not_lt.mp n)))
theorem nd_strict {l : List Str} (h : l.Pairwise fun a b => a.cps.toList < b.cps.toList) : l.Nodup := by
  refine List.Pairwise.imp (fun {a b} h => ?_) h
  intro z
  rw [z] at h
  exact List.lt_irrefl _ h
theorem sorted_keys {es es' : List Exc} {ys : List Str} (hp : es'.Perm es) (up : es'.Pairwise fun e f => e.1 < f.1) (hy : ys.Perm (wordsS es)) (hs : sortedS ys = true) : ys = wordsS es' := by
  have s' := strict_words up
  have p2 : ys.Perm (wordsS es') := hy.trans (hp.symm.map fun e : Exc => T e.1)
  exact uniq_sorted (r := fun a b : Str => a.cps.toList < b.cps.toList) (fun a b h => lt_asym _ _ h) p2 (strict_of (sortedS_pw hs) (p2.nodup_iff.mpr (nd_strict s'))) s'
def tt (e : Exc) : Str × Str := (T e.1, T e.2)
def bk (z : Str × Str) : Exc := (z.1.cps.toList, z.2.cps.toList)
theorem tt_bk (z : Str × Str) : tt (bk z) = z := by
  show (T z.1.cps.toList, T z.2.cps.toList) = z
  rw [T_list, T_list]
theorem bk_tt (e : Exc) : bk (tt e) = e := rfl
theorem sort_exc {es : List Exc} (nd : (es.map (·.1)).Nodup) {qs : List (Str × Str)} (hp : qs.Perm (es.map tt)) (hs : qs.Pairwise fun e f => SrtT.lexT f e = false) :
    qs = (qs.map bk).map tt ∧ (qs.map bk).Perm es ∧ (qs.map bk).Pairwise fun e f => e.1 < f.1 := by
  have e1 : qs = (qs.map bk).map tt := by
    rw [List.map_map]
    conv => lhs; rw [← List.map_id qs]
    exact List.map_congr_left fun z _ => (tt_bk z).symm
  have e2 : (qs.map bk).Perm es := by
    have := hp.map bk
    rw [List.map_map] at this
    have e3 : es.map (bk ∘ tt) = es := by
      conv => rhs; rw [← List.map_id es]
      exact List.map_congr_left fun e _ => rfl
    rwa [e3] at this
  refine ⟨e1, e2, ?_⟩
  have nd2 : ((qs.map bk).map (·.1)).Nodup := (e2.map (·.1)).nodup_iff.mpr nd
  rw [List.pairwise_map]
  have nd3 : qs.Pairwise fun a b => ¬ (bk a).1 = (bk b).1 := by
    have : ((qs.map bk).map (·.1)).Pairwise (· ≠ ·) := nd2
    rw [List.pairwise_map, List.pairwise_map] at this
    exact this
  refine List.Pairwise.imp_of_mem (fun {a b} _ _ h => ?_) (List.Pairwise.and hs nd3)
  obtain ⟨h1, h2⟩ := h
  rcases SrtT.lexT_no.mp h1 with q | ⟨q, _⟩
  · exact q
  · exact absurd (congrArg (fun z : Str => z.cps.toList) q.symm) h2
end Say
namespace Say
open PySem PySem.Spec PyProof.Rows L2
section
variable {P : Program} {w : World} {K : PySem.W.Frag} {mg : Str → Option Value} {base : Heap}
abbrev sLF : Stmt := topS 48
theorem scLF : FnScope ["_law_rule_here", "_law_word", "_law_place", "_law_far", "_law_at", "_law_end"] ["_law_rule_here", "_law_word", "_law_place"] (defScope sLF) := ⟨rfl, rfl, rfl, by decide +kernel, rfl, by decide +kernel, by decide +kernel⟩
def spLF : Sp := fun vs H Q _ => ∃ (t : Addr) (ρ : Rule) (wd : List Nat) (p : Nat), vs = [.ref t, .str (T wd), .int p] ∧ H t = some (.tup ρ.vs) ∧ RlOk ρ ∧ p < wd.length ∧ wd.length ≤ 90 ∧
  Q (.bl (fitsL ρ (sgn wd) (p + 1))) H
theorem ok_LF {f : Addr} {fd : FuncData} {k : Nat} (F : Fun K "_law_fits" "_law_fits" sLF f fd) (B : Bn mg) : FnOk P w K mg base CX0 (k + 1) f fd ["_law_rule_here", "_law_word", "_law_place"] spLF := by
  refine F.ok scLF (fun vs H Q E h => ?_) (fun cdv A outer s H vs Q E hr h => ?_)
  · obtain ⟨t, ρ, wd, p, rfl, _⟩ := h
    rfl
  · obtain ⟨t, ρ, wd, p, rfl, ht, ho, hp, hw, q⟩ := h
    refine ⟨_, pss_cons (ps_set (i := 3) scLF.nd rfl (.inl rfl) (pe_op op_add_str (pe_op op_add_str pe_str (pv 1)) pe_str))
      (pss_cons (ps_par (i := 4) (j := 5) (by rfl) scLF.nd rfl rfl (by decide) rfl rfl (pa_cons (pe_op op_add (pv 2) pe_int) (pa_cons (pe_op op_add (pe_op op_add (pv 2) pe_int) (pe_callB call_len_str (by rfl) B.len PySem.boot_len (pa_cons (pe_ix ix_tup (pv 0) pe_int (fun _ _ => rfl)) pa_nil))) pa_nil)) (by rfl))
      (pss_cons (ps_if (pt_cmpR op_ne (pe_slice sl_str (pv 3) (po_some (pv 4)) (po_some (pv 5))) (pe_ix ix_tup (pv 0) pe_int (fun _ _ => rfl)) (nomark _)) (pss_one (ps_ret pe_bl)) pss_nil)
      (pss_one (ps_ret (pe_and (pe_or (pe_cmpR op_eq (pe_ix ix_tup (pv 0) pe_int (fun _ _ => rfl)) pe_str (nomark _)) (pe_one (pe_cmpR op_in_sign (pe_ix ix_str (pv 3) (pe_op op_sub (pv 4) pe_int) (fun _ _ => rfl)) (pe_ix ix_tup (pv 0) pe_int (fun _ _ => rfl)) rfl)))
        (pe_one (pe_or (pe_cmpR op_eq (pe_ix ix_tup (pv 0) pe_int (fun _ _ => rfl)) pe_str (nomark _)) (pe_one (pe_cmpR op_in_sign (pe_ix ix_str (pv 3) (pv 5) (fun _ _ => rfl)) (pe_ix ix_tup (pv 0) pe_int (fun _ _ => rfl)) rfl))))))))), ?_⟩
    have hT : SqT K H t ρ.vs := .inl (.inl ht)
    have l2 := ho.o2
    have hzl : (T (sgn wd)).length ≤ sizeLine := by rw [T_len, sgn_len]; exact small (by omega)
    have hol : (T ρ.ow).length ≤ sizeLine := by rw [T_len]; exact small (by omega)
    refine ⟨_, rfl, _, _, rfl, rfl, (by rw [len_hash, T_len]; exact small (by omega)), _, _, rfl, rfl, ?_, ?_⟩
    · rw [hash_app, T_len, len_hash, List.length_cons]
      exact small (by omega)
    rw [hash_app, app_hash]
    show tSeq _ _ _ _ _
    refine ⟨_, rfl, _, _, rfl, rfl, _, rfl, _, _, rfl, rfl, _, rfl, t, _, 1, .str (T ρ.ow), rfl, rfl, hT, atI_nat (j := 1) rfl, _, rfl, hol, _, _, rfl, rfl, _, _, rfl, ?_⟩
    refine ⟨_, rfl, _, rfl, _, rfl, _, rfl, _, rfl, T (sgn wd), rfl, hzl, ?_⟩
    have e1 : ((p : Nat) : Int) + 1 = ((p + 1 : Nat) : Int) := by omega
    have e2 : ((p + 1 : Nat) : Int) + ((T ρ.ow).length : Int) = ((p + 1 + ρ.ow.length : Nat) : Int) := by rw [T_len]; omega
    rw [e1, e2, cut_at (by rw [sgn_len]; omega)]
    refine ⟨_, rfl, t, _, 1, .str (T ρ.ow), rfl, rfl, hT, atI_nat (j := 1) rfl, ?_⟩
    refine ⟨rfl, _, rfl, ?_⟩
    have eow : (V.str (T (((sgn wd).drop (p + 1)).take ρ.ow.length)) = V.str (T ρ.ow)) ↔ ((sgn wd).drop (p + 1)).take ρ.ow.length = ρ.ow :=
      ⟨fun z => T_inj (V.str.inj z), fun z => by rw [z]⟩
    by_cases c : ((sgn wd).drop (p + 1)).take ρ.ow.length = ρ.ow
    · rw [decide_eq_true (eow.mpr c)]
      refine iteF ?_
      have room := fit_room c ho.o1 ho.h35
      unfold fitsL at q
      rw [if_pos c] at q
      have hzl' : (sgn wd).length = wd.length + 2 := sgn_len wd
      refine ⟨_, rfl, t, _, 0, .str (T ρ.ah), rfl, rfl, hT, atI_nat (j := 0) rfl, rfl, _, rfl, ?_⟩
      rw [dec_nil]
      have g1 : (T (sgn wd)).cps.toList[p]? = some ((sgn wd).getD (p + 1 - 1) 0) := by rw [Nat.add_sub_cancel, T_cps, List.getD_eq_getElem?_getD, List.getElem?_eq_getElem (by omega)]; rfl
      have g2 : (T (sgn wd)).cps.toList[p + 1 + ρ.ow.length]? = some ((sgn wd).getD (p + 1 + ρ.ow.length) 0) := by rw [T_cps, List.getD_eq_getElem?_getD, List.getElem?_eq_getElem (by omega)]; rfl
      refine ite2 (fun c1 => ?_) (fun c1 => ?_)
      · refine ⟨true, rfl, iteT ?_⟩
        have q2 : Q (.bl (decide (ρ.be = []) || decide ((sgn wd).getD (p + 1 + ρ.ow.length) 0 ∈ ρ.be))) H := by
          rw [c1, Bool.true_or, Bool.true_and] at q; exact q
        refine ⟨_, rfl, t, _, 2, .str (T ρ.be), rfl, rfl, hT, atI_nat (j := 2) rfl, rfl, _, rfl, ?_⟩
        rw [dec_nil]
        refine ite2 (fun d1 => ?_) (fun d1 => ?_)
        · rw [d1, Bool.true_or] at q2
          exact q2
        · rw [Bool.eq_false_iff.mpr d1, Bool.false_or] at q2
          exact ⟨_, rfl, _, rfl, T (sgn wd), _, _, rfl, rfl, hzl, atI_nat g2, _, rfl, t, _, 2, .str (T ρ.be), rfl, rfl, hT, atI_nat (j := 2) rfl, _, T ρ.be, rfl, rfl, q2⟩
      · rw [Bool.eq_false_iff.mpr c1, Bool.false_or] at q
        refine ⟨_, rfl, _, rfl, _, _, rfl, rfl, T (sgn wd), _, _, rfl, rfl, hzl, atI_of g1 (by omega), _, rfl, t, _, 0, .str (T ρ.ah), rfl, rfl, hT, atI_nat (j := 0) rfl, _, T ρ.ah, rfl, rfl, _, rfl, ?_⟩
        refine ite2 (fun c2 => ?_) (fun c2 => ?_)
        · have q2 : Q (.bl (decide (ρ.be = []) || decide ((sgn wd).getD (p + 1 + ρ.ow.length) 0 ∈ ρ.be))) H := by
            rw [show decide ((sgn wd).getD (p + 1 - 1) 0 ∈ ρ.ah) = true from c2, Bool.true_and] at q; exact q
          refine ⟨_, rfl, t, _, 2, .str (T ρ.be), rfl, rfl, hT, atI_nat (j := 2) rfl, rfl, _, rfl, ?_⟩
          rw [dec_nil]
          refine ite2 (fun d1 => ?_) (fun d1 => ?_)
          · rw [d1, Bool.true_or] at q2
            exact q2
          · rw [Bool.eq_false_iff.mpr d1, Bool.false_or] at q2
            exact ⟨_, rfl, _, rfl, T (sgn wd), _, _, rfl, rfl, hzl, atI_nat g2, _, rfl, t, _, 2, .str (T ρ.be), rfl, rfl, hT, atI_nat (j := 2) rfl, _, T ρ.be, rfl, rfl, q2⟩
        · rw [show decide ((sgn wd).getD (p + 1 - 1) 0 ∈ ρ.ah) = false from Bool.eq_false_iff.mpr c2, Bool.false_and] at q
          exact q
    · rw [decide_eq_false fun z => c (eow.mp z)]
      refine iteT ?_
      unfold fitsL at q
      rw [if_neg c] at q
      exact q
end
end Say
namespace Say
open PySem PySem.Spec PyProof.Rows L2
/-- the numbers of all rules that fit -/
def allFit (rs : List Rule) (z : List Nat) (i n : Nat) : List Nat := (List.range n).filter fun k => fitsL (ruleAt rs k) z i
theorem ff_all (rs : List Rule) (z : List Nat) (i : Nat) : ff rs z i = (allFit rs z i rs.length).head? := by
  unfold allFit
  rw [List.head?_filter]
  cases e : ff rs z i with
  | none =>
    symm
    refine List.find?_eq_none.mpr fun k hk => ?_
    have hk := List.mem_range.mp hk
    have := List.findIdx?_eq_none_iff.mp e rs[k] (List.getElem_mem hk)
    rw [ruleAt_eq (List.getElem?_eq_getElem hk), this]
    exact Bool.false_ne_true
  | some k =>
    symm
    obtain ⟨h1, h2, h3⟩ := List.findIdx?_eq_some_iff_getElem.mp e
    refine List.find?_range_eq_some.mpr ⟨?_, List.mem_range.mpr h1, fun j hj => ?_⟩
    · rw [ruleAt_eq (List.getElem?_eq_getElem h1)]
      exact h2
    · have := h3 j hj
      rw [ruleAt_eq (List.getElem?_eq_getElem (show j < rs.length by omega))]
      simpa using this
theorem allFit_next (rs : List Rule) (z : List Nat) (i n : Nat) : allFit rs z i (n + 1) = allFit rs z i n ++ (if fitsL (ruleAt rs n) z i = true then [n] else []) := by
  unfold allFit
  rw [List.range_succ, List.filter_append]
  congr 1
  by_cases c : fitsL (ruleAt rs n) z i = true
  · rw [if_pos c]
    exact List.filter_cons_of_pos (p := fun k => fitsL (ruleAt rs k) z i) c
  · rw [if_neg c]
    exact List.filter_cons_of_neg (p := fun k => fitsL (ruleAt rs k) z i) c
theorem allFit_len (rs : List Rule) (z : List Nat) (i n : Nat) : (allFit rs z i n).length ≤ n := by
  unfold allFit
  have := List.length_filter_le (fun k => fitsL (ruleAt rs k) z i) (List.range n)
  rwa [List.length_range] at this
section
variable {P : Program} {w : World} {K : PySem.W.Frag} {mg : Str → Option Value} {base : Heap}
theorem dp_ints {H : Hp} : ∀ ks : List Nat, DpAll K H (ks.map fun k => V.int (k : Nat)) (ks.map fun k => PyData.int (k : Nat))
  | [] => .nil
  | k :: r => .cons (.int _) (dp_ints r)
theorem eqv_nil (ds : List PyData) : PyData.eqv (.list ds) (.list []) = ds.isEmpty := by
  cases ds <;> rfl
theorem shaped_ints (ks : List Nat) : SeqAt.shaped (.list (ks.map fun k => PyData.int (k : Nat))) = true := by
  have := PySem.W.ke_shaped_ints (ks.map fun k => ((k : Nat) : Int))
  rw [List.map_map] at this
  exact this
abbrev sLW : Stmt := topS 49
theorem scLW : FnScope ["_law_rules_here", "_law_word", "_law_place", "_law_found", "_law_some", "_law_k"] ["_law_rules_here", "_law_word"] (defScope sLW) := ⟨rfl, rfl, rfl, by decide +kernel, rfl, by decide +kernel, by decide +kernel⟩
def LWAt (H : Hp) (t : Addr) (q : List (Nat × Nat) × Option Nat) : Prop := match q.2 with
  | some p => H t = some (.tup [.str (Str.ofString "unsaid"), .int (p : Nat)])
  | none => ∃ D, H t = some (.tup [.str (T []), .ref D]) ∧ StepsAt H D q.1
def spLW : Sp := fun vs H Q _ => ∃ (R : Addr) (rs : List Rule) (wd : List Nat), vs = [.ref R, .str (T wd)] ∧ RulesAt H R rs ∧ (∀ ρ ∈ rs, RlOk ρ) ∧ wd.length ≤ 80 ∧ rs.length ≤ 500 ∧
  ∀ (t : Addr) (H' : Hp), Same H H' → LWAt H' t (W rs wd) → Q (.ref t) H'
theorem ok_LW {f : Addr} {fd : FuncData} (F : Fun K "_law_walk" "_law_walk" sLW f fd) (B : Bn mg) (DF : Df P w K mg base "_law_fits" ["_law_rule_here", "_law_word", "_law_place"] 1 spLF) : FnOk P w K mg base CX0 2 f fd ["_law_rules_here", "_law_word"] spLW := by
  obtain ⟨fF, fdF, GF, kF, bF, mF⟩ := DF
  refine F.ok scLW (fun vs H Q E h => ?_) (fun cdv A outer s H vs Q E hr h => ?_)
  · obtain ⟨R, rs, wd, rfl, _⟩ := h
    rfl
  · obtain ⟨R, rs, wd, rfl, hR, ho, hw, hrs, q⟩ := h
    refine ⟨_, pss_cons (ps_asg (pe_tup (pa_cons pe_int (pa_cons (pe_lst pa_nil) pa_nil))) (pg_tup (by rfl) (pgs_cons (pg_name (i := 2) scLW.nd rfl (.inr rfl)) (pgs_cons (pg_name (i := 3) scLW.nd rfl (.inl rfl)) pgs_nil))))
      (pss_cons (ps_while PassesOwn.never (pt_cmpR op_lt (pv 2) (pe_callB call_len_str (by rfl) B.len PySem.boot_len (pa_cons (pv 1) pa_nil)) (nomark _))
        (pss_cons (ps_setLc (i := 4) (own := [("_law_k", 5)]) (g := gName 5) (te := tVar 5) (tt := tB (tCall spLF [] E0 (tCons (tOp (rIxT K) (tVar 0) (tVar 5)) (tCons (tVar 1) (tCons (tVar 2) tNil))))) rfl scLW.nd rfl rfl (sw_true rfl rfl rfl (by decide +kernel))
            (pi_range1 rfl B.rng (pa_cons (pe_callB call_len (by rfl) B.len PySem.boot_len (pa_cons (pv 0) pa_nil)) pa_nil))
            (blkOk_by (N := ["_law_rules_here", "_law_word", "_law_place", "_law_found", "_law_some", "_law_k"]) (sc := defScope sLW) (by decide +kernel)) (fun _ _ _ _ _ => pg_name (i := 5) scLW.nd rfl (.inl rfl))
            (fun _ _ _ _ _ => pts_one (pt_val (pe_call GF hr (by rfl) mF kF bF .nil pass0 (pa_cons (pe_ix ix_tup (pv 0) (pv 5) (fun _ _ => rfl)) (pa_cons (pv 1) (pa_cons (pv 2) pa_nil)))))) (fun _ _ _ _ _ => pv 5))
        (pss_cons (ps_if (pt_cmpR (op_eqD hr.units) (pv 4) (pe_lst pa_nil) (nomark _)) (pss_one (ps_ret (pe_tup (pa_cons pe_str (pa_cons (pv 2) pa_nil))))) pss_nil)
        (pss_cons (ps_expr (pe_bm PySem.F.plainAttrs_list PySem.F.slot_list_append PySem.F.type_list_append mt_append (pv 3) (pa_cons (pe_tup (pa_cons (pv 2) (pa_cons (pe_ix ix_list (pv 4) pe_int (fun _ _ => rfl)) pa_nil))) pa_nil)))
        (pss_one (ps_set (i := 2) scLW.nd rfl (.inr rfl) (pe_op op_add (pv 2) (pe_callB call_len_str (by rfl) B.len PySem.boot_len (pa_cons (pe_ix ix_tup (pe_ix ix_tup (pv 0) (pe_ix ix_list (pv 4) pe_int (fun _ _ => rfl)) (fun _ _ => rfl)) pe_int (fun _ _ => rfl)) pa_nil)))))))))
      (pss_one (ps_ret (pe_tup (pa_cons pe_str (pa_cons (pv 3) pa_nil)))))), ?_⟩
    refine ⟨(by show 0 ≤ sizeLine; decide), fun D hD => ?_⟩
    refine ⟨(by show 2 ≤ sizeLine; decide), fun u hu => ?_⟩
    refine ⟨u, _, rfl, .inl (.inl upd_same), rfl, _, _, rfl, _, _, rfl, rfl, ?_⟩
    obtain ⟨rts, hRt, hRp⟩ := id hR
    have hz0 : (T wd).length ≤ sizeLine := by rw [T_len]; exact small (by omega)
    have s0 : Same H (upd H D (.lst [])) := same_new hD _
    have s1 : Same H (upd (upd H D (.lst [])) u (.tup [.int 0, .ref D])) := s0.trans (same_new hu _)
    have hD1 : (upd (upd H D (.lst [])) u (.tup [.int 0, .ref D])) D = some (.lst []) := same_new hu _ _ _ upd_same
    refine ⟨fun m σ H2 => ∃ (p : Nat) (acc : List (Nat × Nat)) (v4 : Option V), σ = [some (.ref R), some (.str (T wd)), some (.int p), some (.ref D), v4, none] ∧ wd.length + 1 ≤ p + m ∧ Same H H2 ∧ StepsAt H2 D acc ∧
      W rs wd = (acc ++ (wk rs (sgn wd) m (p + 1)).1, (wk rs (sgn wd) m (p + 1)).2), ⟨wd.length + 1, 0, [], _, rfl, by omega, s1, ⟨[], hD1, .nil⟩, rfl⟩, fun m σ H2 hW => ?_⟩
    obtain ⟨p, acc, v4, rfl, hm, s2, hS, hW⟩ := hW
    refine ⟨_, rfl, _, rfl, _, rfl, hz0, _, _, rfl, rfl, _, rfl, ite2 (fun c => ?_) (fun c => ?_)⟩
    · have c' : (p : Int) < ((T wd).length : Int) := of_decide_eq_true c
      rw [T_len] at c'
      have hp : p < wd.length := by omega
      have hlt : p + 1 < (sgn wd).length - 1 := by rw [sgn_len]; omega
      obtain ⟨m', rfl⟩ : ∃ m', m = m' + 1 := ⟨m - 1, by omega⟩
      refine ⟨fun σ' H' => ∃ (p : Nat) (acc : List (Nat × Nat)) (v4 : Option V), σ' = [some (.ref R), some (.str (T wd)), some (.int p), some (.ref D), v4, none] ∧ wd.length + 1 ≤ p + m' ∧ Same H H' ∧ StepsAt H' D acc ∧
        W rs wd = (acc ++ (wk rs (sgn wd) m' (p + 1)).1, (wk rs (sgn wd) m' (p + 1)).2), fun σ' H' h => ⟨m', Nat.lt_succ_self _, h⟩, ?_⟩
      have rl : (rts.map V.ref).length = rs.length := by rw [List.length_map, paired_len hRp]
      refine ⟨_, rfl, _, _, rfl, .inr ⟨_, .inl (.inl (s2 _ _ hRt)), rfl⟩, _, rfl, by omega, by rw [rl]; omega, fun S hSn => ?_⟩
      have hSnD : D ≠ S := by
        obtain ⟨ts, h1, _⟩ := hS
        exact ne_of_none h1 hSn
      refine lc_it (walk_range) (fun j H3 => H3 S = some (.lst ((allFit rs (sgn wd) (p + 1) j).map fun k => V.int (k : Nat))) ∧ Same H2 H3) ?_ (fun _ _ _ _ => trivial) ?_ ?_
      · exact ⟨upd_same, same_new hSn _⟩
      · rintro j x H3 H3' hj ⟨e1, e2⟩ ⟨rfl, rfl⟩
        rw [rl] at hj
        have hj : j < rs.length := by omega
        obtain ⟨a, ha, hat⟩ := paired_at' hRp (List.getElem?_eq_getElem hj)
        have er : ruleAt rs j = rs[j] := ruleAt_eq (List.getElem?_eq_getElem hj)
        have sR := s2.trans e2
        have en := allFit_next rs (sgn wd) (p + 1) j
        rw [er] at en
        refine ⟨rfl, ?_⟩
        refine ⟨_, rfl, _, rfl, R, _, 0 + (j : Int), .ref a, rfl, rfl, .inl (.inl (sR _ _ hRt)), atI_of (by rw [List.getElem?_map, ha]; rfl) (by omega), _, rfl, _, rfl, a, rs[j], wd, p, rfl, sR _ _ hat, ho _ (List.getElem_mem hj), hp, by omega, _, rfl, ite2 (fun c => ?_) (fun c => ?_)⟩
        · rw [if_pos c] at en
          refine ⟨_, rfl, _, e1, ?_, ?_, ?_⟩
          · rw [List.length_map]
            have := allFit_len rs (sgn wd) (p + 1) j
            exact small1000 (by omega)
          · rw [upd_same, en, List.map_append]
            show some (HO.lst (_ ++ [V.int (0 + (j : Int))])) = _
            rw [Int.zero_add]
            rfl
          · exact fun b u q => by
              rw [upd_ne (ne_of_none q hSn)]
              exact e2 b u q
        · rw [if_neg c, List.append_nil] at en
          exact ⟨by rw [en]; exact e1, e2⟩
      · rintro H3 ⟨e1, e2⟩
        rw [show ((((rts.map V.ref).length : Nat) : Int)).toNat = rs.length by rw [rl]; omega] at e1
        have s3 := s2.trans e2
        obtain ⟨ts, hDl, hDp⟩ := hS.same e2
        have eff := ff_all rs (sgn wd) (p + 1)
        refine ⟨_, rfl, (by show 0 ≤ sizeLine; decide), fun N hN => ?_⟩
        have sN := same_new hN (.lst [])
        have e1N := sN _ _ e1
        refine ⟨_, .list [], .lst (.inl (.inl e1N)) (dp_ints _), .lst (.inl (.inl upd_same)) .nil, shaped_ints _, by decide +kernel, _, rfl, ?_⟩
        rw [eqv_nil]
        have s3N := s3.trans sN
        cases ea : allFit rs (sgn wd) (p + 1) rs.length with
        | nil =>
          rw [ea] at eff
          rw [wk_none hlt eff] at hW
          refine iteT ?_
          refine ⟨_, rfl, (by show 2 ≤ sizeLine; decide), fun t ht => ?_⟩
          refine q t _ (s3N.trans (same_new ht _)) ?_
          unfold LWAt
          rw [hW]
          show upd _ t _ t = _
          rw [upd_same]
          rfl
        | cons k r =>
          rw [ea] at eff
          have eff : ff rs (sgn wd) (p + 1) = some k := eff
          rw [wk_some hlt eff] at hW
          have hk := ff_lt eff
          obtain ⟨a, ha, hat⟩ := paired_at' hRp (List.getElem?_eq_getElem hk)
          have hm2 := ho _ (List.getElem_mem hk)
          have er : ruleAt rs k = rs[k] := ruleAt_eq (List.getElem?_eq_getElem hk)
          refine iteF ?_
          rw [ea] at e1N
          have hDlN := sN _ _ hDl
          refine ⟨_, rfl, .inl ⟨rfl, _, .inl (.inl hDlN)⟩, _, rfl, _, rfl, S, _, 0, .int (k : Nat), rfl, rfl, .inl (.inl e1N), atI_nat (j := 0) rfl, (by show 2 ≤ sizeLine; decide), fun t ht => ?_⟩
          have sm := same_new ht (.tup [.int (p : Nat), .int (k : Nat)])
          have hDl' := sm _ _ hDlN
          have sall : Same H (upd (upd (upd H3 N (.lst [])) t (.tup [.int (p : Nat), .int (k : Nat)])) D (.lst (ts.map V.ref ++ [.ref t]))) := fun b u e => by
            rw [upd_ne (ne_of_none e hD)]
            exact sm _ _ (s3N _ _ e)
          refine ⟨D, _, _, rfl, rfl, hDl', ?_, ?_⟩
          · rw [List.length_map, paired_len hDp]
            have l1 : (W rs wd).1.length ≤ wd.length + 1 := wk_len rs (sgn wd) (wd.length + 1) 1
            rw [hW] at l1
            simp at l1
            exact small1000 (by omega)
          · have e1M : (upd (upd (upd H3 N (.lst [])) t (.tup [.int (p : Nat), .int (k : Nat)])) D (.lst (ts.map V.ref ++ [.ref t]))) S = some (.lst ((k :: r).map fun k => V.int (k : Nat))) := by
              rw [upd_ne hSnD.symm]
              exact sm _ _ e1N
            refine ⟨_, rfl, _, rfl, _, rfl, S, _, 0, .int (k : Nat), rfl, rfl, .inl (.inl e1M), atI_nat (j := 0) rfl, R, _, (k : Int), .ref a, rfl, rfl, .inl (.inl (sall _ _ hRt)), atI_nat (by rw [List.getElem?_map, ha]; rfl), a, _, 1, .str (T rs[k].ow), rfl, rfl, .inl (.inl (sall _ _ hat)), atI_nat (j := 1) rfl, _, rfl, (by rw [T_len]; have := hm2.o2; exact small (by omega)), _, _, rfl, rfl, ?_⟩
            refine ⟨p + rs[k].ow.length, acc ++ [(p, k)], some (.ref S), ?_, by have := hm2.o1; omega, sall, ?_, ?_⟩
            · have ee : ((p + rs[k].ow.length : Nat) : Int) = (p : Int) + ((T rs[k].ow).length : Int) := by rw [T_len]; omega
              rw [ee]
              rfl
            · refine ⟨ts ++ [t], by rw [upd_same, List.map_append]; rfl, paired_app (paired_mono (fun t' s h => ?_) hDp) (.cons ?_ .nil)⟩
              · rw [upd_ne (ne_of h hDl (by intro z; cases z))]
                exact sm _ _ (sN _ _ h)
              · rw [upd_ne (ne_of_none hDlN ht).symm, upd_same]
            · rw [hW, er, List.append_assoc, Nat.add_right_comm p rs[k].ow.length 1, Nat.add_sub_cancel]
              rfl
    · have c' : ¬ (p : Int) < ((T wd).length : Int) := of_decide_eq_false (Bool.eq_false_iff.mpr c)
      rw [T_len] at c'
      rw [wk_end rs (sgn wd) m (p + 1) (by rw [sgn_len]; omega)] at hW
      refine ⟨_, rfl, (by show 2 ≤ sizeLine; decide), fun t ht => ?_⟩
      have sm := same_new ht (.tup [.str (Str.ofString ""), .ref D])
      refine q t _ (s2.trans sm) ?_
      unfold LWAt
      rw [hW]
      refine ⟨D, ?_, ?_⟩
      · rw [upd_same, show Str.ofString "" = T [] from nil_eq]
      · rw [List.append_nil]
        exact hS.same sm
end
end Say
namespace Say
open PySem PySem.Spec PyProof.Rows L2
/-- the sounds of the rules of these numbers -/
def soL (rs : List Rule) (ks : List Nat) : List Nat := (ks.map fun k => (ruleAt rs k).so).flatten
/-- how rules say a word -/
def sayW (rs : List Rule) (wd : List Nat) : Option (List Nat) := if (W rs wd).2 = none then some (soL rs ((W rs wd).1.map (·.2))) else none
def optT : Option (List Nat) → V
  | none => .non
  | some s => .str (T s)
/-- how a book says a word -/
def saidM (rs : List Rule) (es : List Exc) (wd : List Nat) : Option (List Nat) := match es.find? fun e => decide (e.1 = wd) with
  | some e => some e.2
  | none => sayW rs wd
theorem sum_T : ∀ ls : List (List Nat), ((ls.map T).map fun z : Str => z.length).sum = ls.flatten.length
  | [] => rfl
  | l :: r => by
    show (T l).length + ((r.map T).map fun z : Str => z.length).sum = (l ++ r.flatten).length
    rw [sum_T r, T_len, List.length_append]
theorem flat_len {rs : List Rule} (h : ∀ ρ ∈ rs, RlOk ρ) : ∀ ks : List Nat, (∀ k ∈ ks, k < rs.length) → (soL rs ks).length ≤ 3 * ks.length
  | [], _ => Nat.zero_le _
  | k :: r, hk => by
    have ih := flat_len h r fun j hj => hk j (List.mem_cons_of_mem _ hj)
    have hl := hk k (List.mem_cons_self ..)
    have e : ruleAt rs k = rs[k] := ruleAt_eq (List.getElem?_eq_getElem hl)
    have h3 := (h _ (List.getElem_mem hl)).s3
    show ((ruleAt rs k).so ++ soL rs r).length ≤ 3 * (r.length + 1)
    rw [List.length_append, e]
    omega
theorem wk_lt {rs : List Rule} {z : List Nat} : ∀ (m i : Nat), ∀ s ∈ (wk rs z m i).1, s.2 < rs.length
  | 0, _, s, h => by cases h
  | m + 1, i, s, h => by
    by_cases c : i < z.length - 1
    · cases e : ff rs z i with
      | none => rw [wk_none c e] at h; cases h
      | some k =>
        rw [wk_some c e] at h
        rcases List.mem_cons.mp h with rfl | h
        · exact ff_lt e
        · exact wk_lt m _ s h
    · rw [wk_end rs z _ i c] at h
      cases h
section
variable {P : Program} {w : World} {K : PySem.W.Frag} {mg : Str → Option Value} {base : Heap}
abbrev sNum : Stmt := topS 32
theorem scNum : FnScope ["steps", "_", "number"] ["steps"] (defScope sNum) := ⟨rfl, rfl, rfl, by decide +kernel, rfl, by decide +kernel, by decide +kernel⟩
def spNum : Sp := fun vs H Q _ => ∃ (D : Addr) (ss : List (Nat × Nat)), vs = [.ref D] ∧ StepsAt H D ss ∧ ss.length ≤ 200 ∧ ∀ (D' : Addr) (H' : Hp), Same H H' → H D' = none → H' D' = some (.lst (ss.map fun s => V.int (s.2 : Nat))) → Q (.ref D') H'
theorem ok_num {f : Addr} {fd : FuncData} {k : Nat} (F : Fun K "numbers_of" "numbers_of" sNum f fd) : FnOk P w K mg base CX0 (k + 1) f fd ["steps"] spNum := by
  refine F.ok scNum (fun vs H Q E h => ?_) (fun cdv A outer s H vs Q E hr h => ?_)
  · obtain ⟨D, ss, rfl, _⟩ := h
    rfl
  · obtain ⟨D, ss, rfl, ⟨ts, hD, hp⟩, hl, q⟩ := h
    refine ⟨_, pss_one (ps_ret (pe_lc (own := [("_", 1), ("number", 2)]) (g := gTup K 2 (gCons (gName 1) (gCons (gName 2) gNil))) rfl scNum.nd (pi_list (pv 0))
        (blkOk_by (N := ["steps", "_", "number"]) (sc := defScope sNum) (by decide +kernel)) (fun _ _ _ _ _ => pg_tup (by rfl) (pgs_cons (pg_name (i := 1) scNum.nd rfl (.inl rfl)) (pgs_cons (pg_name (i := 2) scNum.nd rfl (.inl rfl)) pgs_nil)))
        (fun _ _ _ _ _ => pts_nil) (fun _ _ _ _ _ => pv 2))), ?_⟩
    refine ⟨_, rfl, D, rfl, ⟨_, .inl (.inl hD)⟩, fun D' hD' => ?_⟩
    refine lc_it (walk_list (xs := ts.map V.ref)) (fun i H2 => H2 D' = some (.lst ((ss.take i).map fun s => V.int (s.2 : Nat))) ∧ Same H H2) ?_ (fun i H2 _ h => .inl (.inl (h.2 _ _ hD))) ?_ ?_
    · exact ⟨upd_same, same_new hD' _⟩
    · rintro i x H2 H2' hi ⟨e1, e2⟩ ⟨rfl, hx⟩
      rw [List.getElem?_map] at hx
      obtain ⟨a, ha, e⟩ := Option.map_eq_some_iff.mp hx
      subst e
      obtain ⟨st, hst, hat⟩ := paired_at hp ha
      have hi2 : i < ss.length := (List.getElem?_eq_some_iff.mp hst).1
      refine ⟨a, _, rfl, .inl (.inl (e2 _ _ hat)), rfl, _, _, rfl, _, _, rfl, rfl, ?_⟩
      refine ⟨rfl, _, rfl, _, e1, ?_, ?_, ?_⟩
      · rw [List.length_map, List.length_take]
        exact small1000 (by omega)
      · rw [upd_same, List.take_add_one, hst, List.map_append]
        rfl
      · exact fun b u q => by
          rw [upd_ne (ne_of_none q hD')]
          exact e2 b u q
    · rintro H2 ⟨e1, e2⟩
      rw [List.length_map, paired_len hp, List.take_length] at e1
      exact q D' H2 e2 hD' e1
abbrev sSou : Stmt := topS 33
theorem scSou : FnScope ["rules", "numbers", "number"] ["rules", "numbers"] (defScope sSou) := ⟨rfl, rfl, rfl, by decide +kernel, rfl, by decide +kernel, by decide +kernel⟩
def spSou : Sp := fun vs H Q _ => ∃ (R D : Addr) (rs : List Rule) (ks : List Nat), vs = [.ref R, .ref D] ∧ RulesAt H R rs ∧ (∀ ρ ∈ rs, RlOk ρ) ∧ H D = some (.lst (ks.map fun k => V.int (k : Nat))) ∧ (∀ k ∈ ks, k < rs.length) ∧ ks.length ≤ 200 ∧
  ∀ (H' : Hp), Same H H' → Q (.str (T (soL rs ks))) H'
theorem ok_sou {f : Addr} {fd : FuncData} {k : Nat} (F : Fun K "sounds_of" "sounds_of" sSou f fd) (cS : KI mg "SOUNDS" 3) : FnOk P w K mg base CX0 (k + 1) f fd ["rules", "numbers"] spSou := by
  obtain ⟨tS, mS⟩ := cS
  refine F.ok scSou (fun vs H Q E h => ?_) (fun cdv A outer s H vs Q E hr h => ?_)
  · obtain ⟨R, D, rs, ks, rfl, _⟩ := h
    rfl
  · obtain ⟨R, D, rs, ks, rfl, ⟨rts, hR, hRp⟩, ho, hD, hk, hl, q⟩ := h
    refine ⟨_, pss_one (ps_ret (pe_join pe_str (pe_lc (own := [("number", 2)]) (g := gName 2) (te := tOp (rIxT K) (tOp (rIxT K) (tVar 0) (tVar 2)) (tC (.int 3))) rfl scSou.nd (pi_list (pv 1))
        (blkOk_by (N := ["rules", "numbers", "number"]) (sc := defScope sSou) (by decide +kernel)) (fun _ _ _ _ _ => pg_name (i := 2) scSou.nd rfl (.inl rfl))
        (fun _ _ _ _ _ => pts_nil) (fun _ _ _ _ _ => pe_ix ix_tup (pe_ix ix_tup (pv 0) (pv 2) (fun _ _ => rfl)) (pe_glob (v := .int 3) rfl mS ⟨_, rfl⟩) (fun _ _ => rfl))))), ?_⟩
    refine ⟨⟨_, rfl⟩, _, rfl, D, rfl, ⟨_, .inl (.inl hD)⟩, fun D' hD' => ?_⟩
    refine lc_it (walk_list (xs := ks.map fun k => V.int (k : Nat))) (fun i H2 => H2 D' = some (.lst ((((ks.take i).map fun k => (ruleAt rs k).so).map T).map V.str)) ∧ Same H H2) ?_ (fun i H2 _ h => .inl (.inl (h.2 _ _ hD))) ?_ ?_
    · exact ⟨upd_same, same_new hD' _⟩
    · rintro i x H2 H2' hi ⟨e1, e2⟩ ⟨rfl, hx⟩
      rw [List.getElem?_map] at hx
      obtain ⟨j, hj, e⟩ := Option.map_eq_some_iff.mp hx
      subst e
      have hjl := hk j (List.mem_of_getElem? hj)
      have hi2 : i < ks.length := (List.getElem?_eq_some_iff.mp hj).1
      obtain ⟨a, ha, hat⟩ := paired_at' hRp (List.getElem?_eq_getElem hjl)
      have er : ruleAt rs j = rs[j] := ruleAt_eq (List.getElem?_eq_getElem hjl)
      refine ⟨rfl, ?_⟩
      refine ⟨_, rfl, _, rfl, R, _, (j : Int), .ref a, rfl, rfl, .inl (.inl (e2 _ _ hR)), atI_nat (by rw [List.getElem?_map, ha]; rfl), a, _, 3, .str (T rs[j].so), rfl, rfl, .inl (.inl (e2 _ _ hat)), atI_nat (j := 3) rfl, _, e1, ?_, ?_, ?_⟩
      · rw [List.length_map, List.length_map, List.length_map, List.length_take]
        exact small1000 (by omega)
      · rw [upd_same, List.take_add_one, hj]
        simp only [Option.toList_some, List.map_append, List.map_cons, List.map_nil, er]
      · exact fun b u q => by
          rw [upd_ne (ne_of_none q hD')]
          exact e2 b u q
    · rintro H2 ⟨e1, e2⟩
      rw [List.length_map, List.take_length] at e1
      refine ⟨Str.ofString "", D', (ks.map fun k => (ruleAt rs k).so).map T, rfl, rfl, .inl (.inl (.inl e1)), ?_, ?_⟩
      · rw [sum_T]
        have := flat_len ho ks hk
        show (soL rs ks).length + _ * 0 ≤ _
        omega
      · rw [show Str.ofString "" = T [] from nil_eq, join_nil]
        exact q H2 e2
end
end Say
namespace Say
open PySem PySem.Spec PyProof.Rows L2
/-- what the law's own saying hands back -/
def saidV (rs : List Rule) (es : List Exc) (wd : List Nat) : List V := match saidM rs es wd with
  | some s => [.str (T []), .str (T s)]
  | none => [.str (Str.ofString "unsaid"), optI (W rs wd).2]
section
variable {P : Program} {w : World} {K : PySem.W.Frag} {mg : Str → Option Value} {base : Heap}
abbrev sLS : Stmt := topS 50
theorem scLS : FnScope ["_law_book", "_law_word", "_law_other", "_law_sounds", "_law_found", "_law_place", "_law_number"] ["_law_book", "_law_word"] (defScope sLS) := ⟨rfl, rfl, rfl, by decide +kernel, rfl, by decide +kernel, by decide +kernel⟩
def spLS : Sp := fun vs H Q _ => ∃ (b : Addr) (L : List Nat) (rs : List Rule) (es : List Exc) (wd : List Nat), vs = [.ref b, .str (T wd)] ∧ BookAt H b L rs es ∧ (∀ ρ ∈ rs, RlOk ρ) ∧ rs.length ≤ 500 ∧ wd.length ≤ 80 ∧
  ∀ (t : Addr) (H' : Hp), Same H H' → H' t = some (.tup (saidV rs es wd)) → Q (.ref t) H'
theorem ok_LS {f : Addr} {fd : FuncData} (F : Fun K "_law_said" "_law_said" sLS f fd) (DW : Df P w K mg base "_law_walk" ["_law_rules_here", "_law_word"] 2 spLW) : FnOk P w K mg base CX0 3 f fd ["_law_book", "_law_word"] spLS := by
  obtain ⟨fW, fdW, GW, kW, bW, mW⟩ := DW
  refine F.ok scLS (fun vs H Q E h => ?_) (fun cdv A outer s H vs Q E hr h => ?_)
  · obtain ⟨b, L, rs, es, wd, rfl, _⟩ := h
    rfl
  · obtain ⟨b, L, rs, es, wd, rfl, ⟨R, X, hb, hR, hX⟩, ho, hrs, hw, q⟩ := h
    refine ⟨_, pss_cons (ps_for PassesOwn.never rfl (pi_tup (pe_ix ix_tup (pv 0) pe_int (fun _ _ => rfl))) (pg_tup (by rfl) (pgs_cons (pg_name (i := 2) scLS.nd rfl (.inl rfl)) (pgs_cons (pg_name (i := 3) scLS.nd rfl (.inl rfl)) pgs_nil)))
        (pss_one (ps_if (pt_cmpR op_eq (pv 2) (pv 1) (nomark _)) (pss_one (ps_ret (pe_tup (pa_cons pe_str (pa_cons (pv 3) pa_nil))))) pss_nil)))
      (pss_cons (ps_set (i := 4) scLS.nd rfl (.inl rfl) (pe_call GW hr (by rfl) mW kW bW .nil pass0 (pa_cons (pe_ix ix_tup (pv 0) pe_int (fun _ _ => rfl)) (pa_cons (pv 1) pa_nil))))
      (pss_cons (ps_if (pt_cmpR op_ne (pe_ix ix_tup (pv 4) pe_int (fun _ _ => rfl)) pe_str (nomark _)) (pss_one (ps_ret (pv 4))) pss_nil)
      (pss_one (ps_ret (pe_tup (pa_cons pe_str (pa_cons (pe_join pe_str (pe_lc (own := [("_law_place", 5), ("_law_number", 6)]) (g := gTup K 2 (gCons (gName 5) (gCons (gName 6) gNil))) (te := tOp (rIxT K) (tOp (rIxT K) (tOp (rIxT K) (tVar 0) (tC (.int 1))) (tVar 6)) (tC (.int 3))) rfl scLS.nd
        (pi_list (pe_ix ix_tup (pv 4) pe_int (fun _ _ => rfl)))
        (blkOk_by (N := ["_law_book", "_law_word", "_law_other", "_law_sounds", "_law_found", "_law_place", "_law_number"]) (sc := defScope sLS) (by decide +kernel)) (fun _ _ _ _ _ => pg_tup (by rfl) (pgs_cons (pg_name (i := 5) scLS.nd rfl (.inl rfl)) (pgs_cons (pg_name (i := 6) scLS.nd rfl (.inl rfl)) pgs_nil)))
        (fun _ _ _ _ _ => pts_nil) (fun _ _ _ _ _ => pe_ix ix_tup (pe_ix ix_tup (pe_ix ix_tup (pv 0) pe_int (fun _ _ => rfl)) (pv 6) (fun _ _ => rfl)) pe_int (fun _ _ => rfl)))) pa_nil))))))), ?_⟩
    obtain ⟨ts, hXl, hXp⟩ := id hX
    refine ⟨_, rfl, b, _, 2, .ref X, rfl, rfl, .inl (.inl hb), atI_nat (j := 2) rfl, X, rfl, ⟨_, .inl (.inl hXl)⟩, for_it (walk_tup (xs := ts.map V.ref)) (fun i σ H3 => Same H H3 ∧ (∃ v2 v3, σ = [some (.ref b), some (.str (T wd)), v2, v3, none, none, none]) ∧ ∀ j e, j < i → es[j]? = some e → ¬ e.1 = wd)
      ⟨Same.refl _, ⟨_, _, rfl⟩, fun j e h => absurd h (Nat.not_lt_zero j)⟩ (fun i σ H3 _ h => .inl (.inl (h.1 _ _ hXl))) ?_ ?_⟩
    · rintro i x σ H3 H4 hi ⟨s3, ⟨v2, v3, rfl⟩, hn⟩ ⟨rfl, hx⟩
      rw [List.getElem?_map] at hx
      obtain ⟨a, ha, e⟩ := Option.map_eq_some_iff.mp hx
      subst e
      obtain ⟨e, he, hat⟩ := paired_at hXp ha
      have hat' := s3 _ _ hat
      refine ⟨a, _, rfl, .inl (.inl hat'), rfl, _, _, rfl, _, _, rfl, rfl, ?_⟩
      refine ⟨_, rfl, _, rfl, rfl, _, rfl, ?_⟩
      rw [eqT]
      refine ite2 (fun c => ?_) (fun c => ?_)
      · have c := of_decide_eq_true c
        have ef : es.find? (fun e => decide (e.1 = wd)) = some e := by
          refine List.find?_eq_some_iff_getElem.mpr ⟨decide_eq_true c, i, (List.getElem?_eq_some_iff.mp he).1, (List.getElem?_eq_some_iff.mp he).2, fun j hj => ?_⟩
          have := hn j _ hj (List.getElem?_eq_getElem (by have := (List.getElem?_eq_some_iff.mp he).1; omega))
          simp only [this, decide_false, Bool.not_false]
        refine ⟨_, rfl, (by show 2 ≤ sizeLine; decide), fun t ht => q t _ (s3.trans (same_new ht _)) ?_⟩
        unfold saidV saidM
        rw [ef, upd_same, show Str.ofString "" = T [] from nil_eq]
      · have c := of_decide_eq_false (Bool.eq_false_iff.mpr c)
        refine ⟨s3, ⟨_, _, rfl⟩, fun j e' hj he' => ?_⟩
        by_cases ej : j = i
        · subst ej
          rw [he] at he'
          cases he'
          exact c
        · exact hn j e' (by omega) he'
    · rintro σ H3 ⟨s3, ⟨v2, v3, rfl⟩, hn⟩
      have ef : es.find? (fun e => decide (e.1 = wd)) = none := by
        refine List.find?_eq_none.mpr fun e he => ?_
        obtain ⟨j, hj⟩ := List.mem_iff_getElem?.mp he
        have := hn j e (by rw [List.length_map, paired_len hXp]; exact (List.getElem?_eq_some_iff.mp hj).1) hj
        simpa using this
      have eM : saidM rs es wd = sayW rs wd := by
        unfold saidM
        rw [ef]
      refine ⟨_, rfl, b, _, 1, .ref R, rfl, rfl, .inl (.inl (s3 _ _ hb)), atI_nat (j := 1) rfl, _, rfl, R, rs, wd, rfl, hR.kt (.of s3), ho, hw, hrs, fun t H4 s4 ht => ?_⟩
      unfold LWAt at ht
      unfold saidV at q
      rw [eM] at q
      unfold sayW at q
      cases eW : (W rs wd).2 with
      | some p =>
        rw [eW] at ht q
        rw [if_neg (fun z => by cases z)] at q
        have ht : H4 t = some (.tup [.str (Str.ofString "unsaid"), .int (p : Nat)]) := ht
        refine ⟨_, rfl, t, _, 0, .str (Str.ofString "unsaid"), rfl, rfl, .inl (.inl ht), atI_nat (j := 0) rfl, rfl, _, rfl, ?_⟩
        rw [show decide (V.str (Str.ofString "unsaid") = V.str (Str.ofString "")) = false from by decide +kernel]
        refine iteT ?_
        exact ⟨_, rfl, q t H4 (s3.trans s4) ht⟩
      | none =>
        rw [eW] at ht q
        rw [if_pos rfl] at q
        obtain ⟨D, ht, hS⟩ := ht
        obtain ⟨sts, hDl, hDp⟩ := id hS
        refine ⟨_, rfl, t, _, 0, .str (T []), rfl, rfl, .inl (.inl ht), atI_nat (j := 0) rfl, rfl, _, rfl, ?_⟩
        rw [dec_nil, decide_eq_true rfl]
        refine iteF ?_
        have hlw : (W rs wd).1.length ≤ wd.length + 1 := wk_len rs (sgn wd) (wd.length + 1) 1
        have s34 := s3.trans s4
        obtain ⟨rts, hRt, hRp⟩ := hR.kt (.of s34)
        refine ⟨⟨_, rfl⟩, _, rfl, t, _, 1, .ref D, rfl, rfl, .inl (.inl ht), atI_nat (j := 1) rfl, D, rfl, ⟨_, .inl (.inl hDl)⟩, fun D' hD' => ?_⟩
        refine lc_it (walk_list (xs := sts.map V.ref)) (fun i H2 => H2 D' = some (.lst ((((((W rs wd).1.take i).map fun s : Nat × Nat => s.2).map fun k => (ruleAt rs k).so).map T).map V.str)) ∧ Same H4 H2) ?_ (fun i H2 _ h => .inl (.inl (h.2 _ _ hDl))) ?_ ?_
        · exact ⟨upd_same, same_new hD' _⟩
        · rintro i x H2 H2' hi ⟨e1, e2⟩ ⟨rfl, hx⟩
          rw [List.getElem?_map] at hx
          obtain ⟨a, ha, e⟩ := Option.map_eq_some_iff.mp hx
          subst e
          obtain ⟨st, hst, hat⟩ := paired_at hDp ha
          have hjl : st.2 < rs.length := wk_lt _ _ st (List.mem_of_getElem? hst)
          have hi2 : i < (W rs wd).1.length := (List.getElem?_eq_some_iff.mp hst).1
          obtain ⟨ra, hra, hrat⟩ := paired_at' hRp (List.getElem?_eq_getElem hjl)
          have er : ruleAt rs st.2 = rs[st.2] := ruleAt_eq (List.getElem?_eq_getElem hjl)
          refine ⟨a, _, rfl, .inl (.inl (e2 _ _ hat)), rfl, _, _, rfl, _, _, rfl, rfl, ?_⟩
          refine ⟨rfl, ?_⟩
          refine ⟨_, rfl, b, _, 1, .ref R, rfl, rfl, .inl (.inl (e2 _ _ (s34 _ _ hb))), atI_nat (j := 1) rfl, _, rfl, R, _, (st.2 : Int), .ref ra, rfl, rfl, .inl (.inl (e2 _ _ hRt)), atI_nat (by rw [List.getElem?_map, hra]; rfl), ra, _, 3, .str (T rs[st.2].so), rfl, rfl, .inl (.inl (e2 _ _ hrat)), atI_nat (j := 3) rfl, _, e1, ?_, ?_, ?_⟩
          · rw [List.length_map, List.length_map, List.length_map, List.length_map, List.length_take]
            exact small1000 (by omega)
          · rw [upd_same, List.take_add_one, hst]
            simp only [Option.toList_some, List.map_append, List.map_cons, List.map_nil, er]
          · exact fun b u q => by
              rw [upd_ne (ne_of_none q hD')]
              exact e2 b u q
        · rintro H2 ⟨e1, e2⟩
          rw [List.length_map, paired_len hDp, List.take_length] at e1
          refine ⟨Str.ofString "", D', (((W rs wd).1.map fun s : Nat × Nat => s.2).map fun k => (ruleAt rs k).so).map T, rfl, rfl, .inl (.inl (.inl e1)), ?_, ?_⟩
          · rw [sum_T]
            have := flat_len ho ((W rs wd).1.map fun s : Nat × Nat => s.2) fun k hk => by
              obtain ⟨st, hst, rfl⟩ := List.mem_map.mp hk
              exact wk_lt _ _ st hst
            rw [List.length_map] at this
            show (soL rs _).length + _ * 0 ≤ _
            omega
          · rw [show Str.ofString "" = T [] from nil_eq, join_nil]
            refine ⟨(by show 2 ≤ sizeLine; decide), fun u hu => q u _ (s34.trans (e2.trans (same_new hu _))) ?_⟩
            rw [upd_same]
            rfl
end
end Say
namespace Say
open PySem PySem.Spec PyProof.Rows L2
section
variable {P : Program} {w : World} {K : PySem.W.Frag} {mg : Str → Option Value} {base : Heap}
abbrev sTaken : Stmt := topS 42
theorem scTaken : FnScope ["_law_row_here", "_law_many", "_law_found", "_law_cell"] ["_law_row_here", "_law_many"] (defScope sTaken) := ⟨rfl, rfl, rfl, by decide +kernel, rfl, by decide +kernel, by decide +kernel⟩
theorem fmod_in {x n : Int} (h : 0 < n) : 0 ≤ x.fmod n ∧ x.fmod n < n := ⟨Int.fmod_nonneg_of_pos _ h, Int.fmod_lt_of_pos _ h⟩
theorem ok_taken {f : Addr} {fd : FuncData} {k : Nat} (F : Fun K "_law_taken" "_law_taken" sTaken f fd) (ml : mg "len" = none) : FnOk P w K mg base CX0 (k + 1) f fd ["_law_row_here", "_law_many"] (spTaken K) := by
  refine F.ok scTaken (fun vs H Q E h => ?_) (fun cdv A outer s H vs Q E hr h => ?_)
  · obtain ⟨r, a, ns, n, rfl, _⟩ := h
    rfl
  · obtain ⟨r, a, ns, n, rfl, R, h0, h1, q⟩ := h
    obtain ⟨⟨i, c, m, hR, hi, hm0, hm1⟩, hS, hle⟩ := id R
    refine ⟨_, pss_cons (ps_if (pt_cmpR op_gt (pe_ix ix_list (pv 0) pe_int (fun _ _ => rfl)) pe_int (nomark _))
        (pss_cons (ps_set (i := 2) scTaken.nd rfl (.inl rfl) (pe_op op_modN (pe_ix ix_list (pv 0) pe_int (fun _ _ => rfl)) (pv 1)))
        (pss_cons (ps_asg (pe_op op_fdivN (pe_ix ix_list (pv 0) pe_int (fun _ _ => rfl)) (pv 1)) (pg_sub (pv 0) pe_int set_list))
        (pss_one (ps_ret (pv 2))))) pss_nil)
      (pss_cons (ps_if (pt_cmpR op_lt (pe_ix ix_list (pv 0) pe_int (fun _ _ => rfl)) (pe_callB call_len_seq (by rfl) ml PySem.boot_len (pa_cons (pe_ix ix_list (pv 0) pe_int (fun _ _ => rfl)) pa_nil)) (nomark _))
        (pss_cons (ps_set (i := 3) scTaken.nd rfl (.inl rfl) (pe_ix ix_list (pe_ix ix_list (pv 0) pe_int (fun _ _ => rfl)) (pe_ix ix_list (pv 0) pe_int (fun _ _ => rfl)) (fun _ _ => rfl)))
        (pss_cons (ps_asg (pe_op op_add (pe_ix ix_list (pv 0) pe_int (fun _ _ => rfl)) pe_int) (pg_sub (pv 0) pe_int set_list))
        (pss_cons (ps_if (pt_cmpR op_ge (pv 3) (pe_op op_pow pe_int pe_int) (nomark _))
          (pss_one (ps_asg (pe_op op_fdivN (pv 3) (pv 1)) (pg_sub (pv 0) pe_int set_list))) pss_nil)
        (pss_one (ps_ret (pe_op op_modN (pv 3) (pv 1))))))) pss_nil)
      (pss_cons (ps_asg (pe_op op_modN (pe_op op_add (pe_op op_mul (pe_ix ix_list (pv 0) pe_int (fun _ _ => rfl)) pe_int) pe_int) pe_int) (pg_sub (pv 0) pe_int set_list))
      (pss_one (ps_ret (pe_op op_modN (pe_op op_fdivN (pe_ix ix_list (pv 0) pe_int (fun _ _ => rfl)) pe_int) (pv 1)))))), ?_⟩
    have hL : SqL K H r [.ref a, .int i, .int c, .int m] := .inl (.inl hR)
    have gn : n ≠ 0 ∧ n.natAbs < 1073741824 := ⟨by omega, by omega⟩
    -- row[2] > 0
    refine ⟨_, rfl, r, _, 2, .int c, rfl, rfl, hL, atI_nat (j := 2) rfl, _, _, rfl, rfl, _, rfl, ite2 (fun e => ?_) (fun e => ?_)⟩
    · refine ⟨_, rfl, r, _, 2, .int c, rfl, rfl, hL, atI_nat (j := 2) rfl, _, rfl, _, _, rfl, rfl, gn.1, ?_⟩
      refine ⟨_, rfl, r, _, 2, .int c, rfl, rfl, hL, atI_nat (j := 2) rfl, _, rfl, _, _, rfl, rfl, gn, ?_⟩
      refine ⟨_, rfl, r, _, 2, 2, rfl, rfl, hR, rfl, ?_⟩
      refine ⟨_, rfl, ?_⟩
      exact q _ _ (fmod_in h0).1 (fmod_in h0).2 (stp_at _) (R.put hi hm0 hm1)
    -- row[1] < len(row[0])
    refine ⟨_, rfl, r, _, 1, .int i, rfl, rfl, hL, atI_nat (j := 1) rfl, _, rfl, r, _, 0, .ref a, rfl, rfl, hL, atI_nat (j := 0) rfl, a, _, rfl, .inl hS, _, _, rfl, rfl, _, rfl, ite2 (fun e1 => ?_) (fun e1 => ?_)⟩
    · have e2 : i < ((ns.map V.int).length : Int) := of_decide_eq_true e1
      rw [List.length_map] at e2
      have hj : i.toNat < ns.length := by omega
      have gx : (ns.map V.int)[i.toNat]? = some (.int ns[i.toNat]) := by
        rw [List.getElem?_map, List.getElem?_eq_getElem hj]
        rfl
      refine ⟨_, rfl, r, _, 0, .ref a, rfl, rfl, hL, atI_nat (j := 0) rfl, _, rfl, r, _, 1, .int i, rfl, rfl, hL, atI_nat (j := 1) rfl, a, _, i, .int ns[i.toNat], rfl, rfl, hS, at_of (j := i.toNat) (by omega) gx, ?_⟩
      refine ⟨_, rfl, r, _, 1, .int i, rfl, rfl, hL, atI_nat (j := 1) rfl, _, _, rfl, rfl, ?_⟩
      refine ⟨_, rfl, r, _, 1, 1, rfl, rfl, hR, rfl, ?_⟩
      have R1 : RowAt K (upd H r (.lst [.ref a, .int (i + 1), .int c, .int m])) r a ns := R.put (by omega) hm0 hm1
      refine ⟨_, rfl, _, _, rfl, rfl, ⟨by decide, by decide, by decide⟩, _, _, rfl, rfl, _, rfl, ite2 (fun e3 => ?_) (fun e3 => ?_)⟩
      · refine ⟨_, rfl, _, rfl, _, _, rfl, rfl, gn, ?_⟩
        refine ⟨_, rfl, r, _, 2, 2, rfl, rfl, upd_same, rfl, ?_⟩
        refine ⟨_, rfl, _, rfl, _, _, rfl, rfl, gn.1, ?_⟩
        exact q _ _ (fmod_in h0).1 (fmod_in h0).2 ((stp_at _).trans (stp_at _)) (R1.put (by omega) hm0 hm1)
      · refine ⟨_, rfl, _, rfl, _, _, rfl, rfl, gn.1, ?_⟩
        exact q _ _ (fmod_in h0).1 (fmod_in h0).2 (stp_at _) R1
    · refine ⟨_, rfl, r, _, 3, .int m, rfl, rfl, hL, atI_nat (j := 3) rfl, _, _, rfl, rfl, .inl ⟨by omega, by omega⟩, _, _, rfl, rfl, _, _, rfl, rfl, (by show (2147483647 : Int) ≠ 0; decide), ?_⟩
      refine ⟨_, rfl, r, _, 3, 3, rfl, rfl, hR, rfl, ?_⟩
      have b := fmod_in (x := m * 48271 + 12345) (n := 2147483647) (by decide)
      have R1 : RowAt K (upd H r (.lst [.ref a, .int i, .int c, .int ((m * 48271 + 12345).fmod 2147483647)])) r a ns := R.put hi b.1 b.2
      refine ⟨_, rfl, r, _, 3, .int ((m * 48271 + 12345).fmod 2147483647), rfl, rfl, .inl (.inl upd_same), atI_nat (j := 3) rfl, _, _, rfl, rfl, ⟨by decide, by decide⟩, _, rfl, _, _, rfl, rfl, gn.1, ?_⟩
      exact q _ _ (fmod_in h0).1 (fmod_in h0).2 (stp_at _) R1
end
end Say
namespace Say
open PySem PySem.Spec PyProof.Rows L2
section
variable {P : Program} {w : World} {K : PySem.W.Frag} {mg : Str → Option Value} {base : Heap}
abbrev sLetters : Stmt := topS 43
theorem scLetters : FnScope ["_law_row_here"] ["_law_row_here"] (defScope sLetters) := ⟨rfl, rfl, rfl, by decide +kernel, rfl, by decide +kernel, by decide +kernel⟩
def lets : List (List Nat) := [[97, 98], [97, 98, 99], [97, 99], [97, 98, 99, 100]]
def spLetters (K : PySem.W.Frag) : Sp := fun vs H Q _ => ∃ (r a : Addr) (ns : List Int), vs = [.ref r] ∧ RowAt K H r a ns ∧
  ∀ (L : List Nat) (H' : Hp), L ∈ lets → Stp r H H' → RowAt K H' r a ns → Q (.str (T L)) H'
theorem ok_letters {f : Addr} {fd : FuncData} (F : Fun K "_law_letters" "_law_letters" sLetters f fd) (DT : Df P w K mg base "_law_taken" ["_law_row_here", "_law_many"] 1 (spTaken K)) :
    FnOk P w K mg base CX0 2 f fd ["_law_row_here"] (spLetters K) := by
  obtain ⟨fT, fdT, GT, kT, bT, mT⟩ := DT
  refine F.ok scLetters (fun vs H Q E h => ?_) (fun cdv A outer s H vs Q E hr h => ?_)
  · obtain ⟨r, a, ns, rfl, _⟩ := h
    rfl
  · obtain ⟨r, a, ns, rfl, R, q⟩ := h
    refine ⟨_, pss_one (ps_ret (pe_ix ix_list (pe_lst (pa_cons pe_str (pa_cons pe_str (pa_cons pe_str (pa_cons pe_str pa_nil))))) (pe_call GT hr (by rfl) mT kT bT .nil pass0 (pa_cons (pv 0) (pa_cons pe_int pa_nil))) (fun _ _ => rfl))), ?_⟩
    refine ⟨(by show 4 ≤ sizeLine; decide), fun p hp => ?_⟩
    have sm := same_new hp (.lst [V.str "ab", .str "abc", .str "ac", .str "abcd"])
    refine ⟨_, rfl, r, a, ns, 4, rfl, R.stp sm, by decide, by decide, fun k1 H1 h0 h1 s1 R1 => ?_⟩
    have hL : SqL K H1 p [V.str "ab", .str "abc", .str "ac", .str "abcd"] := .inl (.inl (s1 _ _ upd_same (R.nw hp).symm))
    have hk : k1 = 0 ∨ k1 = 1 ∨ k1 = 2 ∨ k1 = 3 := by omega
    rcases hk with e | e | e | e
    · exact ⟨p, _, k1, V.str (T [97, 98]), rfl, rfl, hL, at_of (j := 0) e (by decide +kernel), q _ H1 (by decide) ((Stp.of sm).trans s1) R1⟩
    · exact ⟨p, _, k1, V.str (T [97, 98, 99]), rfl, rfl, hL, at_of (j := 1) e (by decide +kernel), q _ H1 (by decide) ((Stp.of sm).trans s1) R1⟩
    · exact ⟨p, _, k1, V.str (T [97, 99]), rfl, rfl, hL, at_of (j := 2) e (by decide +kernel), q _ H1 (by decide) ((Stp.of sm).trans s1) R1⟩
    · exact ⟨p, _, k1, V.str (T [97, 98, 99, 100]), rfl, rfl, hL, at_of (j := 3) e (by decide +kernel), q _ H1 (by decide) ((Stp.of sm).trans s1) R1⟩
abbrev sSide : Stmt := topS 44
theorem scSide : FnScope ["_law_row_here", "_law_letters_here", "_law_sign"] ["_law_row_here", "_law_letters_here"] (defScope sSide) := ⟨rfl, rfl, rfl, by decide +kernel, rfl, by decide +kernel, by decide +kernel⟩
def spSide (K : PySem.W.Frag) : Sp := fun vs H Q _ => ∃ (r a : Addr) (ns : List Int) (L : List Nat), vs = [.ref r, .str (T L)] ∧ RowAt K H r a ns ∧ L.length ≤ 4 ∧
  ∀ (z : List Nat) (H' : Hp), z.Sublist (35 :: L) → Stp r H H' → RowAt K H' r a ns → Q (.str (T z)) H'
theorem ok_side {f : Addr} {fd : FuncData} (F : Fun K "_law_side" "_law_side" sSide f fd) (DT : Df P w K mg base "_law_taken" ["_law_row_here", "_law_many"] 1 (spTaken K)) :
    FnOk P w K mg base CX0 2 f fd ["_law_row_here", "_law_letters_here"] (spSide K) := by
  obtain ⟨fT, fdT, GT, kT, bT, mT⟩ := DT
  refine F.ok scSide (fun vs H Q E h => ?_) (fun cdv A outer s H vs Q E hr h => ?_)
  · obtain ⟨r, a, ns, L, rfl, _⟩ := h
    rfl
  · obtain ⟨r, a, ns, L, rfl, R, hl, q⟩ := h
    refine ⟨_, pss_cons (ps_if (pt_cmpR op_eq (pe_call GT hr (by rfl) mT kT bT .nil pass0 (pa_cons (pv 0) (pa_cons pe_int pa_nil))) pe_int (nomark _)) (pss_one (ps_ret pe_str)) pss_nil)
      (pss_one (ps_ret (pe_join pe_str (pe_lc (own := [("_law_sign", 2)]) (g := gName 2) rfl scSide.nd (pi_str (pe_op op_add_str pe_str (pv 1)))
        (blkOk_by (N := ["_law_row_here", "_law_letters_here", "_law_sign"]) (sc := defScope sSide) (by decide +kernel)) (fun _ _ _ _ _ => pg_name (i := 2) scSide.nd rfl (.inl rfl))
        (fun _ _ _ _ _ => pts_one (pt_cmpR op_eq (pe_call GT hr (by rfl) mT kT bT .nil pass0 (pa_cons (pv 0) (pa_cons pe_int pa_nil))) pe_int (nomark _))) (fun _ _ _ _ _ => pv 2))))), ?_⟩
    refine ⟨_, rfl, r, a, ns, 2, rfl, R, by decide, by decide, fun k1 H1 h0 h1 s1 R1 => ?_⟩
    refine ⟨rfl, _, rfl, ite2 (fun _ => ?_) (fun _ => ?_)⟩
    · have e := q [] H1 (List.nil_sublist _) s1 R1
      exact e
    refine ⟨⟨_, rfl⟩, _, rfl, _, _, rfl, rfl, (by rw [len_hash, T_len]; exact small (by omega)), ?_⟩
    refine ⟨T (35 :: L), congrArg V.str (hash_app L), fun D hD => ?_⟩
    refine lc_it (walk_str) (fun i H2 => ∃ acc : List Nat, H2 D = some (.lst (sg acc)) ∧ acc.Sublist ((35 :: L).take i) ∧ Stp r H1 H2 ∧ RowIn H2 r a) ?_ (fun _ _ _ _ => trivial) ?_ ?_
    · exact ⟨[], upd_same, List.nil_sublist _, Stp.of (same_new hD _), R1.in.upd (R1.nw hD)⟩
    · rintro i x H2 H2' hi ⟨acc, e1, e2, e3, e4⟩ ⟨rfl, c, hc, rfl⟩
      have hc := T_at hc
      have tk := take_next hc
      refine ⟨rfl, _, rfl, r, a, ns, 2, rfl, R1.of e3 e4, by decide, by decide, fun k2 H3 h0 h1 s2 R2 => ?_⟩
      have e1' := s2.one e1 (R1.nw hD)
      refine ⟨rfl, _, rfl, ite2 (fun _ => ?_) (fun _ => ?_)⟩
      · refine ⟨_, rfl, _, e1', ?_, acc ++ [c], ?_, ?_, (e3.trans s2).put hD _, R2.in.upd (R1.nw hD)⟩
        · have := e2.length_le
          rw [sg_len]
          rw [List.length_take, List.length_cons] at this
          exact small1000 (by omega)
        · rw [upd_same]
          exact congrArg (fun l => some (HO.lst l)) (sg_app acc c)
        · rw [tk]
          exact e2.append (List.Sublist.refl [c])
      · refine ⟨acc, e1', ?_, e3.trans s2, R2.in⟩
        rw [tk]
        exact e2.trans (List.sublist_append_left _ _)
    · rintro H2 ⟨acc, e1, e2, e3, e4⟩
      rw [T_size, List.take_length] at e2
      refine ⟨Str.ofString "", D, (acc.map fun c => [c]).map T, rfl, rfl, .inl (.inl (.inl ?_)), ?_, ?_⟩
      · rw [e1, sg_map]
      · rw [sum_ones]
        have := e2.length_le
        rw [List.length_cons] at this
        show acc.length + _ * 0 ≤ _
        omega
      · rw [show Str.ofString "" = T [] from nil_eq, join_nil, map_single]
        exact q acc H2 e2 (s1.trans e3) (R1.of e3 e4)
end
end Say
namespace Say
open PySem PySem.Spec PyProof.Rows L2
theorem paired_map {α β γ : Type} {F : α → β → Prop} {f : γ → α} {g : γ → β} : ∀ {l : List γ}, (∀ z ∈ l, F (f z) (g z)) → Paired F (l.map f) (l.map g)
  | [], _ => .nil
  | z :: l, h => .cons (h z (List.mem_cons_self ..)) (paired_map fun y hy => h y (List.mem_cons_of_mem _ hy))
theorem strOk_T {l : List Nat} (h : ∀ c ∈ l, c < 1114112) : PyData.strOk (T l) = true := by
  show l.toArray.all (· < 0x110000) = true
  rw [List.all_toArray, List.all_eq_true]
  intro c hc
  exact decide_eq_true (h c hc)
theorem shaped_two {x y : PyData} (hx : x.canLay0 = true) (hy : y.canLay0 = true) (dx : x.depth = 0) (dy : y.depth = 0) : SeqAt.shaped (.tuple [x, y]) = true := by
  unfold SeqAt.shaped
  rw [Bool.and_eq_true]
  refine ⟨?_, ?_⟩
  · show PyData.canLayAll0 [x, y] = true
    simp [PyData.canLayAll0, hx, hy]
  · refine decide_eq_true ?_
    show PyData.depthAll [x, y] + 1 ≤ 64
    simp [PyData.depthAll, dx, dy]
/-- the row stays where all but a dict does -/
theorem RowAt.stpD {K : PySem.W.Frag} {H H' : Hp} {r a F : Addr} {ns : List Int} {kvs : List (Key × V)} (R : RowAt K H r a ns) (hF : H F = some (.dK kvs)) (e : Stp F H H') : RowAt K H' r a ns := by
  obtain ⟨⟨i', c', m', q', b'⟩, sc, le⟩ := R
  refine ⟨⟨i', c', m', e _ _ q' (ne_of q' hF (by intro z; cases z)), b'⟩, ?_, le⟩
  rcases sc with (sc | ⟨o, sc⟩) | sc
  · exact .inl (.inl (e _ _ sc (ne_of sc hF (by intro z; cases z))))
  · exact .inl (.inr ⟨o, e _ _ sc (ne_of sc hF (by intro z; cases z))⟩)
  · exact .inr sc
end Say
namespace Say
open PySem PySem.Spec PyProof.Rows L2
theorem lets_ok {L : List Nat} (h : L ∈ lets) : LetOk L := by
  have : ∀ L ∈ lets, LetOk L := by
    intro L h
    simp only [lets, List.mem_cons, List.not_mem_nil, or_false] at h
    rcases h with rfl | rfl | rfl | rfl <;> exact ⟨by decide, by decide, by decide, by decide⟩
  exact this L h
/-- what is said are capitals, three a letter at the most -/
theorem say_caps {L : List Nat} {rs : List Rule} (ho : ∀ ρ ∈ rs, RuleOk L ρ) (hL : LetOk L) {wd so : List Nat} (h : sayW rs wd = some so) : (∀ c ∈ so, 65 ≤ c ∧ c ≤ 90) ∧ so.length ≤ 3 * (wd.length + 1) := by
  unfold sayW at h
  by_cases e : (W rs wd).2 = none
  · rw [if_pos e] at h
    have h := (Option.some.inj h).symm
    subst h
    have hl : (W rs wd).1.length ≤ wd.length + 1 := wk_len rs (sgn wd) (wd.length + 1) 1
    have hk : ∀ k ∈ (W rs wd).1.map (fun s : Nat × Nat => s.2), k < rs.length := fun k hk => by
      obtain ⟨st, hst, rfl⟩ := List.mem_map.mp hk
      exact wk_lt _ _ st hst
    have h3 := flat_len (fun ρ hρ => (ho ρ hρ).rl hL) _ hk
    rw [List.length_map] at h3
    refine ⟨fun c hc => ?_, by omega⟩
    obtain ⟨l, hl, hcl⟩ := List.mem_flatten.mp hc
    obtain ⟨k, hkm, rfl⟩ := List.mem_map.mp hl
    have hkl := hk k hkm
    rw [ruleAt_eq (List.getElem?_eq_getElem hkl)] at hcl
    exact (ho _ (List.getElem_mem hkl)).so c hcl
  · rw [if_neg e] at h
    cases h
theorem said_stuck' {rs : List Rule} {es : List Exc} {wd : List Nat} (h : saidM rs es wd = none) : ∃ p, (W rs wd).2 = some p := by
  cases hq : (W rs wd).2 with
  | some p => exact ⟨p, rfl⟩
  | none =>
    unfold saidM at h
    cases hf : es.find? fun e => decide (e.1 = wd) with
    | some e => rw [hf] at h; cases h
    | none =>
      rw [hf] at h
      have h : sayW rs wd = none := h
      unfold sayW at h
      rw [if_pos hq] at h
      cases h
/-- what the law's own saying told, against ("", sounds) -/
theorem said_cmp {K : PySem.W.Frag} {H : Hp} {t u : Addr} {rs : List Rule} {es : List Exc} {wd so : List Nat} (ht : H t = some (.tup (saidV rs es wd))) (hu : H u = some (.tup [.str (Str.ofString ""), .str (T so)]))
    (ok : ∀ s, saidM rs es wd = some s → ∀ c ∈ s, c < 1114112) (oks : ∀ c ∈ so, c < 1114112) :
    ∃ d1 d2, Dp K H (.ref t) d1 ∧ Dp K H (.ref u) d2 ∧ SeqAt.shaped d1 = true ∧ SeqAt.shaped d2 = true ∧ PyData.eqv d1 d2 = decide (saidM rs es wd = some so) := by
  cases hM : saidM rs es wd with
  | some s =>
    refine ⟨.tuple [.str (T []), .str (T s)], .tuple [.str (Str.ofString ""), .str (T so)], ?_, .tup (.inl (.inl hu)) (.cons (.str _) (.cons (.str _) .nil)), shaped_two (by decide +kernel) (strOk_T (ok s hM)) rfl rfl, shaped_two (by decide +kernel) (strOk_T oks) rfl rfl, ?_⟩
    · unfold saidV at ht
      rw [hM] at ht
      exact .tup (.inl (.inl ht)) (.cons (.str _) (.cons (.str _) .nil))
    · rw [show Str.ofString "" = T [] from nil_eq]
      show ((T [] == T []) && ((T s == T so) && true)) = _
      rw [beq_self_eq_true, Bool.true_and, Bool.and_true]
      rw [Bool.eq_iff_iff, decide_eq_true_eq, beq_iff_eq]
      exact ⟨fun z => by rw [T_inj z], fun z => by rw [Option.some.inj z]⟩
  | none =>
    obtain ⟨p, hp⟩ := said_stuck' hM
    refine ⟨.tuple [.str (Str.ofString "unsaid"), .int (p : Nat)], .tuple [.str (Str.ofString ""), .str (T so)], ?_, .tup (.inl (.inl hu)) (.cons (.str _) (.cons (.str _) .nil)), shaped_two (by decide +kernel) rfl rfl rfl, shaped_two (by decide +kernel) (strOk_T oks) rfl rfl, ?_⟩
    · unfold saidV at ht
      rw [hM, hp] at ht
      exact .tup (.inl (.inl ht)) (.cons (.str _) (.cons (.int _) .nil))
    · show ((Str.ofString "unsaid" == Str.ofString "") && PyData.eqvAll [.int (p : Nat)] [.str (T so)]) = _
      rw [show (Str.ofString "unsaid" == Str.ofString "") = false by decide +kernel, Bool.false_and]
      rfl
/-- S is not where the script stands -/
def Off (K : PySem.W.Frag) (a S : Addr) (ns : List Int) : Prop := (∀ H : Hp, SqL K H a (ns.map V.int)) ∨ a ≠ S
theorem RowAt.off {K : PySem.W.Frag} {H : Hp} {r a S : Addr} {ns : List Int} (R : RowAt K H r a ns) (h : H S = none) : Off K a S ns := by
  obtain ⟨_, sc, _⟩ := R
  rcases sc with (sc | ⟨o, sc⟩) | sc
  · exact .inr (ne_of_none sc h)
  · exact .inr (ne_of_none sc h)
  · exact .inl fun H' => .inr sc
theorem RowAt.updS {K : PySem.W.Frag} {H : Hp} {r a S : Addr} {ns : List Int} {o : HO} (R : RowAt K H r a ns) (n : r ≠ S) (of : Off K a S ns) : RowAt K (upd H S o) r a ns := by
  obtain ⟨⟨i', c', m', q', b'⟩, sc, le⟩ := R
  refine ⟨⟨i', c', m', by rw [upd_ne n]; exact q', b'⟩, ?_, le⟩
  rcases of with of | of
  · exact of _
  · rcases sc with (sc | ⟨o, sc⟩) | sc
    · exact .inl (.inl (by rw [upd_ne of]; exact sc))
    · exact .inl (.inr ⟨o, by rw [upd_ne of]; exact sc⟩)
    · exact .inr sc
theorem kt_updL {H : Hp} {S : Addr} {l : List V} {o : HO} (h : H S = some (.lst l)) : KT H (upd H S o) := kt_upd h
/-- a list of numbers as data -/
theorem dp_nats {K : PySem.W.Frag} {H : Hp} {D : Addr} {ks : List Nat} (h : H D = some (.lst (ks.map fun k => V.int (k : Nat)))) : Dp K H (.ref D) (.list (ks.map fun k => PyData.int (k : Nat))) := .lst (.inl (.inl h)) (dp_ints ks)
theorem few_nats {ks : List Nat} (h : ks.length ≤ 1000) : Few (.list (ks.map fun k => PyData.int (k : Nat))) := by
  refine .lst (by rw [List.length_map]; exact h) fun d hd => ?_
  obtain ⟨k, _, rfl⟩ := List.mem_map.mp hd
  exact .int _
theorem depth_nats : ∀ ks : List Nat, PyData.depthAll (ks.map fun k => PyData.int (k : Nat)) = 0
  | [] => rfl
  | k :: r => by
    show max 0 (PyData.depthAll (r.map fun k => PyData.int (k : Nat))) = 0
    rw [depth_nats r]
    rfl
end Say
namespace Say
open PySem PySem.Spec PyProof.Rows L2
section
variable {P : Program} {w : World} {K : PySem.W.Frag} {mg : Str → Option Value} {base : Heap}
abbrev sEnd : Stmt := topS 29
theorem scEnd : FnScope ["rules", "tail", "steps", "stuck"] ["rules", "tail"] (defScope sEnd) := ⟨rfl, rfl, rfl, by decide +kernel, rfl, by decide +kernel, by decide +kernel⟩
def EndV (H : Hp) (v : V) (q : List (Nat × Nat) × Option Nat) : Prop := match q.2 with
  | some _ => v = .non
  | none => ∃ D, v = .ref D ∧ H D = some (.lst (q.1.map fun s => V.int (s.2 : Nat)))
def spEnd : Sp := fun vs H Q _ => ∃ (R : Addr) (rs : List Rule) (wd : List Nat), vs = [.ref R, .str (T (35 :: wd))] ∧ RulesAt H R rs ∧ (∀ ρ ∈ rs, RlOk ρ) ∧ wd.length ≤ 80 ∧
  ∀ (v : V) (H' : Hp), Same H H' → EndV H' v (W rs wd) → Q v H'
theorem ok_end {f : Addr} {fd : FuncData} (F : Fun K "ending" "ending" sEnd f fd) (DS : Df P w K mg base "steps_of" ["rules", "tail"] 3 spSt) (DN : Df P w K mg base "numbers_of" ["steps"] 1 spNum) : FnOk P w K mg base CX0 4 f fd ["rules", "tail"] spEnd := by
  obtain ⟨fS, fdS, GS, kS, bS, mS⟩ := DS
  obtain ⟨fN, fdN, GN, kN, bN, mN⟩ := DN
  refine F.ok scEnd (fun vs H Q E h => ?_) (fun cdv A outer s H vs Q E hr h => ?_)
  · obtain ⟨R, rs, wd, rfl, _⟩ := h
    rfl
  · obtain ⟨R, rs, wd, rfl, hR, ho, hw, q⟩ := h
    have hr1 : Room 1 _ := hr.mono (by decide)
    refine ⟨_, pss_cons (ps_if (pt_cmpR op_isN (pv 1) pe_non (nomark _)) (pss_one (ps_ret pe_non)) pss_nil)
      (pss_cons (ps_asg (pe_call GS hr (by rfl) mS kS bS .nil pass0 (pa_cons (pv 0) (pa_cons (pv 1) pa_nil))) (pg_tup (by rfl) (pgs_cons (pg_name (i := 2) scEnd.nd rfl (.inl rfl)) (pgs_cons (pg_name (i := 3) scEnd.nd rfl (.inl rfl)) pgs_nil))))
      (pss_cons (ps_if (pt_cmpR op_notN (pv 3) pe_non (nomark _)) (pss_one (ps_ret pe_non)) pss_nil)
      (pss_one (ps_ret (pe_call GN hr1 (by rfl) mN kN bN .nil pass0 (pa_cons (pv 2) pa_nil)))))), ?_⟩
    refine ⟨_, rfl, rfl, _, rfl, ?_⟩
    rw [show decide (V.str (T (35 :: wd)) = V.non) = false from decide_eq_false (fun z => by cases z)]
    refine iteF ?_
    refine ⟨_, rfl, _, rfl, R, rs, wd, rfl, hR, ho, hw, fun t D H1 s1 hD ht hS => ?_⟩
    refine ⟨t, _, rfl, .inl (.inl ht), rfl, _, _, rfl, _, _, rfl, rfl, ?_⟩
    refine ⟨_, rfl, rfl, _, rfl, ?_⟩
    cases e : (W rs wd).2 with
    | some p =>
      rw [show decide (optI (some p) = V.non) = false from decide_eq_false (fun z => by cases z)]
      refine iteT ?_
      refine q _ H1 s1 ?_
      unfold EndV
      rw [e]
    | none =>
      refine iteF ?_
      have hl : (W rs wd).1.length ≤ wd.length + 1 := wk_len rs (sgn wd) (wd.length + 1) 1
      refine ⟨_, rfl, D, _, rfl, hS, by omega, fun D' H2 s2 _ h2 => ?_⟩
      refine q _ H2 (s1.trans s2) ?_
      unfold EndV
      rw [e]
      exact ⟨D', rfl, h2⟩
abbrev sEnS : Stmt := topS 30
theorem scEnS : FnScope ["rules", "tail", "numbers"] ["rules", "tail"] (defScope sEnS) := ⟨rfl, rfl, rfl, by decide +kernel, rfl, by decide +kernel, by decide +kernel⟩
def spEnS : Sp := fun vs H Q _ => ∃ (R : Addr) (rs : List Rule) (wd : List Nat), vs = [.ref R, .str (T (35 :: wd))] ∧ RulesAt H R rs ∧ (∀ ρ ∈ rs, RlOk ρ) ∧ wd.length ≤ 80 ∧
  ∀ (H' : Hp), Same H H' → Q (optT (sayW rs wd)) H'
theorem ok_enS {f : Addr} {fd : FuncData} (F : Fun K "ending_sounds" "ending_sounds" sEnS f fd) (DE : Df P w K mg base "ending" ["rules", "tail"] 4 spEnd) (DN : Df P w K mg base "sounds_of" ["rules", "numbers"] 1 spSou) : FnOk P w K mg base CX0 5 f fd ["rules", "tail"] spEnS := by
  obtain ⟨fS, fdS, GS, kS, bS, mS⟩ := DE
  obtain ⟨fN, fdN, GN, kN, bN, mN⟩ := DN
  refine F.ok scEnS (fun vs H Q E h => ?_) (fun cdv A outer s H vs Q E hr h => ?_)
  · obtain ⟨R, rs, wd, rfl, _⟩ := h
    rfl
  · obtain ⟨R, rs, wd, rfl, hR, ho, hw, q⟩ := h
    have hr1 : Room 1 _ := hr.mono (by decide)
    refine ⟨_, pss_cons (ps_set (i := 2) scEnS.nd rfl (.inl rfl) (pe_call GS hr (by rfl) mS kS bS .nil pass0 (pa_cons (pv 0) (pa_cons (pv 1) pa_nil))))
      (pss_cons (ps_if (pt_cmpR op_isN (pv 2) pe_non (nomark _)) (pss_one (ps_ret pe_non)) pss_nil)
      (pss_one (ps_ret (pe_call GN hr1 (by rfl) mN kN bN .nil pass0 (pa_cons (pv 0) (pa_cons (pv 2) pa_nil)))))), ?_⟩
    refine ⟨_, rfl, _, rfl, R, rs, wd, rfl, hR, ho, hw, fun v H1 s1 hv => ?_⟩
    unfold EndV at hv
    unfold sayW at q
    cases e : (W rs wd).2 with
    | some p =>
      rw [e] at hv q
      cases hv
      refine ⟨_, rfl, rfl, _, rfl, iteT ?_⟩
      exact q H1 s1
    | none =>
      rw [e] at hv
      rw [e, if_pos rfl] at q
      obtain ⟨D, rfl, hD⟩ := hv
      refine ⟨_, rfl, rfl, _, rfl, ?_⟩
      rw [show decide (V.ref D = V.non) = false from decide_eq_false (fun z => by cases z)]
      refine iteF ?_
      have hl : (W rs wd).1.length ≤ wd.length + 1 := wk_len rs (sgn wd) (wd.length + 1) 1
      refine ⟨_, rfl, _, rfl, R, D, rs, ((W rs wd).1.map fun s : Nat × Nat => s.2), rfl, hR.kt (.of s1), ho, by rw [hD, List.map_map]; rfl, fun k hk => ?_, by rw [List.length_map]; omega, fun H2 s2 => q H2 (s1.trans s2)⟩
      obtain ⟨st, hst, rfl⟩ := List.mem_map.mp hk
      exact wk_lt _ _ st hst
abbrev sWS : Stmt := topS 31
theorem scWS : FnScope ["rules", "word"] ["rules", "word"] (defScope sWS) := ⟨rfl, rfl, rfl, by decide +kernel, rfl, by decide +kernel, by decide +kernel⟩
def spWS : Sp := fun vs H Q _ => ∃ (R : Addr) (rs : List Rule) (wd : List Nat), vs = [.ref R, .str (T wd)] ∧ RulesAt H R rs ∧ (∀ ρ ∈ rs, RlOk ρ) ∧ wd.length ≤ 80 ∧
  ∀ (H' : Hp), Same H H' → Q (optT (sayW rs wd)) H'
theorem ok_WS {f : Addr} {fd : FuncData} (F : Fun K "word_sounds" "word_sounds" sWS f fd) (C : Cn mg) (DE : Df P w K mg base "ending_sounds" ["rules", "tail"] 5 spEnS) : FnOk P w K mg base CX0 6 f fd ["rules", "word"] spWS := by
  obtain ⟨fE, fdE, GE, kE, bE, mE⟩ := DE
  obtain ⟨tE, mG⟩ := C.edge
  refine F.ok scWS (fun vs H Q E h => ?_) (fun cdv A outer s H vs Q E hr h => ?_)
  · obtain ⟨R, rs, wd, rfl, _⟩ := h
    rfl
  · obtain ⟨R, rs, wd, rfl, hR, ho, hw, q⟩ := h
    refine ⟨_, pss_one (ps_ret (pe_call GE hr (by rfl) mE kE bE .nil pass0 (pa_cons (pv 0) (pa_cons (pe_op op_add_str (pe_glob (v := .str "#") rfl mG ⟨_, rfl⟩) (pv 1)) pa_nil)))), ?_⟩
    exact ⟨_, rfl, _, rfl, _, _, rfl, rfl, (by rw [len_hash, T_len]; exact small (by omega)), R, rs, wd, (by rw [hash_app]; rfl), hR, ho, hw, q⟩
end
end Say
namespace Say
open PySem PySem.Spec PyProof.Rows L2
/-- the list at S holds samples -/
def SampsAt (H : Hp) (S : Addr) (ss : List Exc) : Prop := ∃ ts : List Addr, H S = some (.lst (ts.map V.ref)) ∧ Paired (fun t (e : Exc) => H t = some (.tup [.str (T e.1), .str (T e.2)])) ts ss
theorem SampsAt.same {H H' : Hp} {S : Addr} {ss : List Exc} (h : SampsAt H S ss) (e : Same H H') : SampsAt H' S ss := by
  obtain ⟨ts, h1, h2⟩ := h
  exact ⟨ts, e _ _ h1, paired_mono (fun t ρ q => e _ _ q) h2⟩
theorem eqO {o : Option (List Nat)} {b : List Nat} : decide (optT o = V.str (T b)) = decide (o = some b) := by
  cases o with
  | none => rw [decide_eq_false (fun z => by cases z), decide_eq_false (fun z => by cases z)]
  | some a => exact decide_eq_decide.mpr ⟨fun z => by rw [T_inj (V.str.inj z)], fun z => by cases z; rfl⟩
section
variable {P : Program} {w : World} {K : PySem.W.Frag} {mg : Str → Option Value} {base : Heap}
abbrev sIsSaid : Stmt := topS 39
theorem scIsSaid : FnScope ["rules", "sample", "word", "sounds"] ["rules", "sample"] (defScope sIsSaid) := ⟨rfl, rfl, rfl, by decide +kernel, rfl, by decide +kernel, by decide +kernel⟩
def spIsSaid : Sp := fun vs H Q _ => ∃ (R t : Addr) (rs : List Rule) (e : Exc), vs = [.ref R, .ref t] ∧ RulesAt H R rs ∧ (∀ ρ ∈ rs, RlOk ρ) ∧ H t = some (.tup [.str (T e.1), .str (T e.2)]) ∧ e.1.length ≤ 80 ∧
  ∀ (H' : Hp), Same H H' → Q (.bl (decide (sayW rs e.1 = some e.2))) H'
theorem ok_isSaid {f : Addr} {fd : FuncData} (F : Fun K "is_said" "is_said" sIsSaid f fd) (DE : Df P w K mg base "word_sounds" ["rules", "word"] 6 spWS) : FnOk P w K mg base CX0 7 f fd ["rules", "sample"] spIsSaid := by
  obtain ⟨fE, fdE, GE, kE, bE, mE⟩ := DE
  refine F.ok scIsSaid (fun vs H Q E h => ?_) (fun cdv A outer s H vs Q E hr h => ?_)
  · obtain ⟨R, t, rs, e, rfl, _⟩ := h
    rfl
  · obtain ⟨R, t, rs, e, rfl, hR, ho, ht, hw, q⟩ := h
    refine ⟨_, pss_cons (ps_asg (pv 1) (pg_tup (by rfl) (pgs_cons (pg_name (i := 2) scIsSaid.nd rfl (.inl rfl)) (pgs_cons (pg_name (i := 3) scIsSaid.nd rfl (.inl rfl)) pgs_nil))))
      (pss_one (ps_ret (pe_cmpR op_eq (pe_call GE hr (by rfl) mE kE bE .nil pass0 (pa_cons (pv 0) (pa_cons (pv 2) pa_nil))) (pv 3) (nomark _)))), ?_⟩
    refine ⟨_, rfl, t, _, rfl, .inl (.inl ht), rfl, _, _, rfl, _, _, rfl, rfl, ?_⟩
    refine ⟨_, rfl, _, rfl, R, rs, e.1, rfl, hR, ho, hw, fun H1 s1 => ?_⟩
    have hsc : scal (optT (sayW rs e.1)) (V.str (T e.2)) = true := by
      cases sayW rs e.1 <;> rfl
    refine ⟨_, rfl, hsc, ?_⟩
    have := q H1 s1
    rw [← eqO] at this
    exact this
abbrev sChS : Stmt := topS 38
theorem scChS : FnScope ["letters", "samples", "number", "sample"] ["letters", "samples"] (defScope sChS) := ⟨rfl, rfl, rfl, by decide +kernel, rfl, by decide +kernel, by decide +kernel⟩
def spChS : Sp := fun vs H Q _ => ∃ (L : List Nat) (S : Addr) (ss : List Exc), vs = [.str (T L), .ref S] ∧ SampsAt H S ss ∧ (∀ e ∈ ss, ExcOk L e) ∧ ss.length ≤ 12 ∧ ∀ (H' : Hp), Same H H' → Q .non H'
theorem ok_chS {f : Addr} {fd : FuncData} (F : Fun K "check_samples" "check_samples" sChS f fd) (B : Bn mg) (cM : KI mg "MOST_SAMPLES" 12) (DI : Df P w K mg base "is_exception" ["letters", "pair"] 3 spIsExc) :
    FnOk P w K mg base CX0 4 f fd ["letters", "samples"] spChS := by
  obtain ⟨fI, fdI, GI, kI, bI, mI⟩ := DI
  obtain ⟨tS, mS⟩ := cM
  refine F.ok scChS (fun vs H Q E h => ?_) (fun cdv A outer s H vs Q E hr h => ?_)
  · obtain ⟨L, S, ss, rfl, _⟩ := h
    rfl
  · obtain ⟨L, S, ss, rfl, ⟨ts, hS, hp⟩, ho, h12, q⟩ := h
    refine ⟨_, pss_cons (ps_if (pt_not (pt_val (pe_callB call_isi (by rfl) B.isi (by decide +kernel) (pa_cons (pv 1) (pa_cons (pe_bltn (v := .ty "list") rfl B.lst (by decide +kernel) rfl) pa_nil))))) (pss_one ps_never) pss_nil)
      (pss_one (ps_for PassesOwn.never rfl (pi_enum (by rfl) B.enu (pa_cons (pv 1) pa_nil)) (pg_tup (by rfl) (pgs_cons (pg_name (i := 2) scChS.nd rfl (.inl rfl)) (pgs_cons (pg_name (i := 3) scChS.nd rfl (.inl rfl)) pgs_nil)))
        (pss_one (ps_if (PW.pt (pw_or (pt_cmpR op_eq (pv 2) (pe_glob (v := .int 12) rfl mS ⟨_, rfl⟩) (nomark _)) (pw_or1 (pt_not (pt_val (pe_call GI hr (by rfl) mI kI bI .nil pass0 (pa_cons (pv 0) (pa_cons (pv 3) pa_nil)))))))) (pss_one ps_never) pss_nil)))), ?_⟩
    refine ⟨_, rfl, _, _, .type "list", _, true, rfl, ClsV.ty _, .base (.lst hS), kit_ty (by decide +kernel), true, rfl, iteF ?_⟩
    refine ⟨_, rfl, S, _, rfl, .inl (.inl hS), for_it (walk_enum (xs := ts.map V.ref)) (fun i σ H2 => Same H H2 ∧ ∃ v2 v3, σ = [some (.str (T L)), some (.ref S), v2, v3]) ⟨Same.refl H, _, _, rfl⟩ (fun i σ H2 _ h => .inl (.inl (h.1 _ _ hS))) ?_ ?_⟩
    · rintro i x σ H2 H3 hi ⟨s2, v2, v3, rfl⟩ ⟨t, x1, x2, rfl, ht, rfl, g1, g2⟩
      cases g1
      have g2 : (ts.map V.ref)[i]? = some x2 := g2
      rw [List.getElem?_map] at g2
      obtain ⟨a, ha, e⟩ := Option.map_eq_some_iff.mp g2
      subst e
      obtain ⟨e, he, hat⟩ := paired_at hp ha
      have sm := same_new ht (.tup [.int (i : Nat), .ref a])
      have hi2 : i < ss.length := (List.getElem?_eq_some_iff.mp he).1
      refine ⟨t, _, rfl, .inl (.inl upd_same), rfl, _, _, rfl, _, _, rfl, rfl, ?_⟩
      refine ⟨_, rfl, rfl, _, rfl, ?_⟩
      have nq : ¬ V.int ((i : Nat) : Int) = V.int 12 := fun z => by
        have := V.int.inj z
        omega
      rw [decide_eq_false nq]
      refine iteF ?_
      refine ⟨_, rfl, _, rfl, L, a, e, rfl, sm _ _ (s2 _ _ hat), ho e (List.mem_of_getElem? he), fun H4 s4 => ?_⟩
      exact ⟨true, rfl, iteF ⟨s2.trans (sm.trans s4), _, _, rfl⟩⟩
    · rintro σ H2 ⟨s2, v2, v3, rfl⟩
      exact q H2 s2
abbrev sChA : Stmt := topS 37
theorem scChA : FnScope ["letters", "rules", "samples"] ["letters", "rules", "samples"] (defScope sChA) := ⟨rfl, rfl, rfl, by decide +kernel, rfl, by decide +kernel, by decide +kernel⟩
def spChA : Sp := fun vs H Q _ => ∃ (L : List Nat) (R S : Addr) (rs : List Rule) (ss : List Exc), vs = [.str (T L), .ref R, .ref S] ∧ LetOk L ∧ RulesAt H R rs ∧ (∀ ρ ∈ rs, RuleOk L ρ) ∧ rs.length ≤ 12 ∧ SampsAt H S ss ∧ (∀ e ∈ ss, ExcOk L e) ∧ ss.length ≤ 12 ∧ ∀ (H' : Hp), Same H H' → Q .non H'
theorem ok_chA {f : Addr} {fd : FuncData} (F : Fun K "check_all" "check_all" sChA f fd) (DL : Df P w K mg base "check_letters" ["letters"] 2 spChL) (DR : Df P w K mg base "check_rules" ["letters", "rules"] 4 spChR)
    (DS : Df P w K mg base "check_samples" ["letters", "samples"] 4 spChS) : FnOk P w K mg base CX0 5 f fd ["letters", "rules", "samples"] spChA := by
  obtain ⟨fL, fdL, GL, kL, bL, mL⟩ := DL
  obtain ⟨fR, fdR, GR, kR, bR, mR⟩ := DR
  obtain ⟨fS, fdS, GS, kS, bS, mS⟩ := DS
  refine F.ok scChA (fun vs H Q E h => ?_) (fun cdv A outer s H vs Q E hr h => ?_)
  · obtain ⟨L, R, S, rs, ss, rfl, _⟩ := h
    rfl
  · obtain ⟨L, R, S, rs, ss, rfl, hL, hR, ho, h12, hS, hs, s12, q⟩ := h
    refine ⟨_, pss_cons (ps_expr (pe_call GL (hr.mono (by decide)) (by rfl) mL kL bL .nil pass0 (pa_cons (pv 0) pa_nil)))
      (pss_cons (ps_expr (pe_call GR hr (by rfl) mR kR bR .nil pass0 (pa_cons (pv 0) (pa_cons (pv 1) pa_nil))))
      (pss_one (ps_expr (pe_call GS hr (by rfl) mS kS bS .nil pass0 (pa_cons (pv 0) (pa_cons (pv 2) pa_nil)))))), ?_⟩
    refine ⟨_, rfl, L, rfl, hL, fun H1 s1 => ?_⟩
    refine ⟨_, rfl, _, rfl, L, R, rs, rfl, hL, hR.kt (.of s1), ho, h12, fun H2 s2 => ?_⟩
    refine ⟨_, rfl, _, rfl, L, S, ss, rfl, hS.same (s1.trans s2), hs, s12, fun H3 s3 => ?_⟩
    exact q H3 (s1.trans (s2.trans s3))
end
end Say
namespace Say
open PySem PySem.Spec PyProof.Rows L2
/-- the numbers, below n, of samples that rules don't say so -/
def blamM (rs : List Rule) (ss : List Exc) (n : Nat) : List Nat := (List.range n).filter fun i => match ss[i]? with
  | some e => !decide (sayW rs e.1 = some e.2)
  | none => false
theorem blam_next {rs : List Rule} {ss : List Exc} {n : Nat} {e : Exc} (h : ss[n]? = some e) : blamM rs ss (n + 1) = blamM rs ss n ++ (if sayW rs e.1 = some e.2 then [] else [n]) := by
  unfold blamM
  rw [List.range_succ, List.filter_append]
  congr 1
  by_cases c : sayW rs e.1 = some e.2
  · rw [if_pos c]
    refine List.filter_cons_of_neg ?_
    simp [h, c]
  · rw [if_neg c]
    refine List.filter_cons_of_pos ?_
    simp [h, c]
theorem blam_len (rs : List Rule) (ss : List Exc) (n : Nat) : (blamM rs ss n).length ≤ n := by
  unfold blamM
  have := List.length_filter_le (fun i => match ss[i]? with | some e => !decide (sayW rs e.1 = some e.2) | none => false) (List.range n)
  rwa [List.length_range] at this
def natsV (ks : List Nat) : List V := ks.map fun k => V.int (k : Nat)
section
variable {P : Program} {w : World} {K : PySem.W.Frag} {mg : Str → Option Value} {base : Heap}
abbrev sBl : Stmt := topS 36
abbrev nBl : List Str := ["letters", "rules", "samples", "number", "sample"]
theorem scBl : FnScope nBl ["letters", "rules", "samples"] (defScope sBl) := ⟨rfl, rfl, rfl, by decide +kernel, rfl, by decide +kernel, by decide +kernel⟩
def spBl : Sp := fun vs H Q _ => ∃ (L : List Nat) (R S : Addr) (rs : List Rule) (ss : List Exc), vs = [.str (T L), .ref R, .ref S] ∧ LetOk L ∧ RulesAt H R rs ∧ (∀ ρ ∈ rs, RuleOk L ρ) ∧ rs.length ≤ 12 ∧ SampsAt H S ss ∧ (∀ e ∈ ss, ExcOk L e) ∧ ss.length ≤ 12 ∧
  ∀ (D : Addr) (H' : Hp), Same H H' → H D = none → H' D = some (.lst (natsV (blamM rs ss ss.length))) → Q (.ref D) H'
theorem ok_bl {f : Addr} {fd : FuncData} (F : Fun K "blamed" "blamed" sBl f fd) (B : Bn mg) (DC : Df P w K mg base "check_all" ["letters", "rules", "samples"] 5 spChA) (DI : Df P w K mg base "is_said" ["rules", "sample"] 7 spIsSaid) :
    FnOk P w K mg base CX0 8 f fd ["letters", "rules", "samples"] spBl := by
  obtain ⟨fC, fdC, GC, kC, bC, mC⟩ := DC
  obtain ⟨fI, fdI, GI, kI, bI, mI⟩ := DI
  refine F.ok scBl (fun vs H Q E h => ?_) (fun cdv A outer s H vs Q E hr h => ?_)
  · obtain ⟨L, R, S, rs, ss, rfl, _⟩ := h
    rfl
  · obtain ⟨L, R, S, rs, ss, rfl, hL, hR, ho, h12, hS, hs, s12, q⟩ := h
    refine ⟨_, pss_cons (ps_expr (pe_call GC (hr.mono (by decide)) (by rfl) mC kC bC .nil pass0 (pa_cons (pv 0) (pa_cons (pv 1) (pa_cons (pv 2) pa_nil)))))
      (pss_one (ps_ret (pe_lc (own := [("number", 3), ("sample", 4)]) (g := gTup K 2 (gCons (gName 3) (gCons (gName 4) gNil))) (te := tVar 3) (tt := tNot (tB (tCall spIsSaid [] E0 (tCons (tVar 1) (tCons (tVar 4) tNil))))) rfl scBl.nd (pi_enum (by rfl) B.enu (pa_cons (pv 2) pa_nil))
        (blkOk_by (N := nBl) (sc := defScope sBl) (by decide +kernel)) (fun _ _ _ _ _ => pg_tup (by rfl) (pgs_cons (pg_name (i := 3) scBl.nd rfl (.inl rfl)) (pgs_cons (pg_name (i := 4) scBl.nd rfl (.inl rfl)) pgs_nil)))
        (fun _ _ _ _ _ => pts_one (pt_not (pt_val (pe_call GI hr (by rfl) mI kI bI .nil pass0 (pa_cons (pv 1) (pa_cons (pv 4) pa_nil)))))) (fun _ _ _ _ _ => pv 3)))), ?_⟩
    refine ⟨_, rfl, _, rfl, _, rfl, L, R, S, rs, ss, rfl, hL, hR, ho, h12, hS, hs, s12, fun H1 s1 => ?_⟩
    have hR1 := hR.kt (.of s1)
    obtain ⟨ts, hSl, hSp⟩ := hS.same s1
    have hrl : ∀ ρ ∈ rs, RlOk ρ := fun ρ hρ => (ho ρ hρ).rl hL
    refine ⟨_, rfl, S, _, rfl, .inl (.inl hSl), fun D hD => ?_⟩
    refine lc_it (walk_enum (xs := ts.map V.ref)) (fun i H2 => H2 D = some (.lst (natsV (blamM rs ss i))) ∧ Same H1 H2) ?_ (fun i H2 _ h => .inl (.inl (h.2 _ _ hSl))) ?_ ?_
    · exact ⟨upd_same, same_new hD _⟩
    · rintro i x H2 H3 hi ⟨e1, e2⟩ ⟨t, x1, x2, rfl, ht, rfl, g1, g2⟩
      cases g1
      have g2 : (ts.map V.ref)[i]? = some x2 := g2
      rw [List.getElem?_map] at g2
      obtain ⟨a, ha, e⟩ := Option.map_eq_some_iff.mp g2
      subst e
      obtain ⟨e, he, hat⟩ := paired_at hSp ha
      have sm := same_new ht (.tup [.int (i : Nat), .ref a])
      have hi2 : i < ss.length := (List.getElem?_eq_some_iff.mp he).1
      have w8 := (hs e (List.mem_of_getElem? he)).w8
      have sR := e2.trans sm
      have et := blam_next (rs := rs) he
      refine ⟨t, _, rfl, .inl (.inl upd_same), rfl, _, _, rfl, _, _, rfl, rfl, ?_⟩
      refine ⟨rfl, _, rfl, _, rfl, R, a, rs, e, rfl, hR1.kt (.of sR), hrl, sR _ _ hat, by omega, fun H4 s4 => ?_⟩
      have eD := s4 _ _ (sm _ _ e1)
      refine ⟨_, rfl, ite2 (fun c => ?_) (fun c => ?_)⟩
      · have c : ¬ sayW rs e.1 = some e.2 := by simpa using c
        rw [if_neg c] at et
        refine ⟨_, rfl, _, eD, ?_, ?_, ?_⟩
        · unfold natsV
          rw [List.length_map]
          have := blam_len rs ss i
          exact small1000 (by omega)
        · rw [upd_same, et]
          unfold natsV
          rw [List.map_append]
          rfl
        · exact fun b u q => by
            rw [upd_ne (ne_of_none q hD)]
            exact s4 _ _ (sR b u q)
      · have c : sayW rs e.1 = some e.2 := by simpa using c
        rw [if_pos c, List.append_nil] at et
        exact ⟨by rw [et]; exact eD, sR.trans s4⟩
    · rintro H2 ⟨e1, e2⟩
      rw [List.length_map, paired_len hSp] at e1
      exact q D H2 (s1.trans e2) (s1.free hD) e1
end
end Say
namespace Say
open PySem PySem.Spec PyProof.Rows L2
section
variable {P : Program} {w : World} {K : PySem.W.Frag} {mg : Str → Option Value} {base : Heap}
abbrev sText : Stmt := topS 45
theorem scText : FnScope ["_law_row_here", "_law_signs", "_law_fewest", "_law_many", "_law_k"] ["_law_row_here", "_law_signs", "_law_fewest", "_law_many"] (defScope sText) := ⟨rfl, rfl, rfl, by decide +kernel, rfl, by decide +kernel, by decide +kernel⟩
def spText (K : PySem.W.Frag) : Sp := fun vs H Q _ => ∃ (r a : Addr) (ns : List Int) (S : List Nat) (lo hi : Nat), vs = [.ref r, .str (T S), .int lo, .int hi] ∧ RowAt K H r a ns ∧ 0 < S.length ∧ S.length ≤ 100 ∧ lo ≤ hi ∧ hi ≤ 100 ∧
  ∀ (z : List Nat) (H' : Hp), (∀ c ∈ z, c ∈ S) → lo ≤ z.length → z.length ≤ hi → Stp r H H' → RowAt K H' r a ns → Q (.str (T z)) H'
theorem ok_text {f : Addr} {fd : FuncData} (F : Fun K "_law_text" "_law_text" sText f fd) (DT : Df P w K mg base "_law_taken" ["_law_row_here", "_law_many"] 1 (spTaken K)) (ml : mg "len" = none) (mr : mg "range" = none) :
    FnOk P w K mg base CX0 2 f fd ["_law_row_here", "_law_signs", "_law_fewest", "_law_many"] (spText K) := by
  obtain ⟨fT, fdT, GT, kT, bT, mT⟩ := DT
  refine F.ok scText (fun vs H Q E h => ?_) (fun cdv A outer s H vs Q E hr h => ?_)
  · obtain ⟨r, a, ns, S, lo, hi, rfl, _⟩ := h
    rfl
  · obtain ⟨r, a, ns, S, lo, hi, rfl, R, hS0, hS1, hlh, hh, q⟩ := h
    refine ⟨_, pss_one (ps_ret (pe_join pe_str (pe_lc (own := [("_law_k", 4)]) (g := gName 4) rfl scText.nd
        (pi_range1 rfl mr (pa_cons (pe_op op_add (pv 2) (pe_call GT hr (by rfl) mT kT bT .nil pass0 (pa_cons (pv 0) (pa_cons (pe_op op_add (pe_op op_sub (pv 3) (pv 2)) pe_int) pa_nil)))) pa_nil))
        (blkOk_by (N := ["_law_row_here", "_law_signs", "_law_fewest", "_law_many", "_law_k"]) (sc := defScope sText) (by decide +kernel)) (fun _ _ _ _ _ => pg_name (i := 4) scText.nd rfl (.inl rfl))
        (fun _ _ _ _ _ => pts_nil) (fun _ _ _ _ _ => pe_ix ix_str (pv 1) (pe_call GT hr (by rfl) mT kT bT .nil pass0 (pa_cons (pv 0) (pa_cons (pe_callB call_len_str (by rfl) ml PySem.boot_len (pa_cons (pv 1) pa_nil)) pa_nil))) (fun _ _ => rfl))))), ?_⟩
    refine ⟨⟨_, rfl⟩, _, rfl, _, rfl, _, rfl, _, rfl, _, _, rfl, rfl, _, _, rfl, rfl, r, a, ns, _, rfl, R, by omega, by omega, fun k1 H1 h0 h1 s1 R1 => ?_⟩
    refine ⟨_, _, rfl, rfl, (lo : Int) + k1, rfl, by omega, by omega, fun D hD => ?_⟩
    refine lc_it (walk_range) (fun i H2 => ∃ acc : List Nat, H2 D = some (.lst (sg acc)) ∧ acc.length = i ∧ (∀ c ∈ acc, c ∈ S) ∧ Stp r H1 H2 ∧ RowIn H2 r a) ?_ (fun _ _ _ _ => trivial) ?_ ?_
    · exact ⟨[], upd_same, rfl, by simp, Stp.of (same_new hD _), R1.in.upd (R1.nw hD)⟩
    · rintro i x H2 H2' hi' ⟨acc, e1, e2, e3, e4, e5⟩ ⟨rfl, rfl⟩
      refine ⟨rfl, ?_⟩
      refine ⟨_, rfl, _, rfl, _, rfl, _, rfl, (by rw [T_len]; exact small (by omega)), r, a, ns, _, rfl, R1.of e4 e5, (by rw [T_len]; omega), (by rw [T_len]; omega), fun k2 H3 h2 h3 s2 R2 => ?_⟩
      have e1' := s2.one e1 (R1.nw hD)
      rw [T_len] at h3
      have hj : k2.toNat < S.length := by omega
      refine ⟨T S, k2, S[k2.toNat], rfl, rfl, (by rw [T_len]; exact small (by omega)), at_list hj (by omega), ?_⟩
      refine ⟨_, e1', ?_, acc ++ [S[k2.toNat]], ?_, by simp [e2], ?_, (e4.trans s2).put hD _, R2.in.upd (R1.nw hD)⟩
      · rw [sg_len]
        exact small1000 (by omega)
      · rw [upd_same]
        exact congrArg (fun l => some (HO.lst l)) (sg_app acc _)
      · intro c hc
        rcases List.mem_append.mp hc with h | h
        · exact e3 c h
        · rw [List.mem_singleton.mp h]
          exact List.getElem_mem hj
    · rintro H2 ⟨acc, e1, e2, e3, e4, e5⟩
      refine ⟨Str.ofString "", D, (acc.map fun c => [c]).map T, rfl, rfl, .inl (.inl (.inl ?_)), ?_, ?_⟩
      · rw [e1, sg_map]
      · rw [sum_ones]
        show acc.length + _ * 0 ≤ _
        omega
      · rw [show Str.ofString "" = T [] from nil_eq, join_nil, map_single]
        exact q acc H2 e3 (by omega) (by omega) (s1.trans e4) (R1.of e4 e5)
end
end Say
namespace Say
open PySem PySem.Spec PyProof.Rows L2
section
variable {P : Program} {w : World} {K : PySem.W.Frag} {mg : Str → Option Value} {base : Heap}
abbrev sRule : Stmt := topS 46
theorem scRule : FnScope ["_law_row_here", "_law_letters_here", "_law_ahead", "_law_own"] ["_law_row_here", "_law_letters_here"] (defScope sRule) := ⟨rfl, rfl, rfl, by decide +kernel, rfl, by decide +kernel, by decide +kernel⟩
def spRule (K : PySem.W.Frag) : Sp := fun vs H Q _ => ∃ (r a : Addr) (ns : List Int) (L : List Nat), vs = [.ref r, .str (T L)] ∧ RowAt K H r a ns ∧ 0 < L.length ∧ L.length ≤ 4 ∧
  ∀ (ρ : Rule) (t : Addr) (H' : Hp), RuleOk L ρ → H' t = some (.tup ρ.vs) → Stp r H H' → RowAt K H' r a ns → Q (.ref t) H'
theorem AB_eq : Str.ofString "AB" = T [65, 66] := by decide +kernel
theorem AB_ok {z : List Nat} (h : ∀ c ∈ z, c ∈ [65, 66]) : ∀ c ∈ z, 65 ≤ c ∧ c ≤ 90 := fun c hc => by
  have := h c hc
  simp at this
  omega
theorem ok_rule {f : Addr} {fd : FuncData} (F : Fun K "_law_rule" "_law_rule" sRule f fd) (DT : Df P w K mg base "_law_taken" ["_law_row_here", "_law_many"] 1 (spTaken K))
    (DS : Df P w K mg base "_law_side" ["_law_row_here", "_law_letters_here"] 2 (spSide K)) (DX : Df P w K mg base "_law_text" ["_law_row_here", "_law_signs", "_law_fewest", "_law_many"] 2 (spText K)) :
    FnOk P w K mg base CX0 3 f fd ["_law_row_here", "_law_letters_here"] (spRule K) := by
  obtain ⟨fT, fdT, GT, kT, bT, mT⟩ := DT
  obtain ⟨fS, fdS, GS, kS, bS, mS⟩ := DS
  obtain ⟨fX, fdX, GX, kX, bX, mX⟩ := DX
  refine F.ok scRule (fun vs H Q E h => ?_) (fun cdv A outer s H vs Q E hr h => ?_)
  · obtain ⟨r, a, ns, L, rfl, _⟩ := h
    rfl
  · obtain ⟨r, a, ns, L, rfl, R, hl0, hl, q⟩ := h
    have hr1 : Room 1 _ := hr.mono (by decide)
    refine ⟨_, pss_cons (ps_par (i := 2) (j := 3) (by rfl) scRule.nd rfl rfl (by decide) rfl rfl (pa_cons (pe_call GS hr (by rfl) mS kS bS .nil pass0 (pa_cons (pv 0) (pa_cons (pv 1) pa_nil)))
          (pa_cons (pe_call GX hr (by rfl) mX kX bX .nil pass0 (pa_cons (pv 0) (pa_cons (pv 1) (pa_cons pe_int (pa_cons pe_int pa_nil))))) pa_nil)) (by rfl))
      (pss_one (ps_ret (pe_tup (pa_cons (pv 2) (pa_cons (pv 3) (pa_cons (pe_call GS hr (by rfl) mS kS bS .nil pass0 (pa_cons (pv 0) (pa_cons (pv 1) pa_nil)))
        (pa_cons (pe_call GX hr (by rfl) mX kX bX .nil pass0 (pa_cons (pv 0) (pa_cons pe_str (pa_cons pe_int (pa_cons (pe_ix ix_list (pe_lst (pa_cons pe_int (pa_cons pe_int (pa_cons pe_int pa_nil)))) (pe_call GT hr1 (by rfl) mT kT bT .nil pass0 (pa_cons (pv 0) (pa_cons pe_int pa_nil))) (fun _ _ => rfl)) pa_nil))))) pa_nil))))))), ?_⟩
    refine ⟨_, rfl, _, rfl, r, a, ns, L, rfl, R, hl, fun ah H1 o1 s1 R1 => ?_⟩
    refine ⟨_, rfl, _, rfl, r, a, ns, L, 1, 2, rfl, R1, hl0, by omega, by decide, by decide, fun ow H2 o2 o3 o4 s2 R2 => ?_⟩
    refine ⟨_, _, rfl, ?_⟩
    refine ⟨_, rfl, _, rfl, _, rfl, _, rfl, r, a, ns, L, rfl, R2, hl, fun be H3 o5 s3 R3 => ?_⟩
    refine ⟨_, rfl, (by show 3 ≤ sizeLine; decide), fun p hp => ?_⟩
    have sm := same_new hp (.lst [V.int 1, .int 1, .int 3])
    refine ⟨_, rfl, r, a, ns, 3, rfl, R3.stp sm, by decide, by decide, fun k1 H4 h0 h1 s4 R4 => ?_⟩
    have hL : SqL K H4 p [V.int 1, .int 1, .int 3] := .inl (.inl (s4 _ _ upd_same (R3.nw hp).symm))
    have s34 := (Stp.of sm).trans s4
    have fin : ∀ m : Nat, m ≤ 3 → ∀ (so : List Nat) (H5 : Hp), (∀ c ∈ so, c ∈ [65, 66]) → 0 ≤ so.length → so.length ≤ m → Stp r H4 H5 → RowAt K H5 r a ns → 
        (4 ≤ sizeLine ∧ ∀ t, H5 t = none → Q (.ref t) (upd H5 t (.tup [.str (T ah), .str (T ow), .str (T be), .str (T so)]))) := fun m hm so H5 o6 _ o7 s5 R5 =>
      ⟨by decide, fun t ht => q ⟨ah, ow, be, so⟩ t _ ⟨o1, o2, o3, o4, o5, AB_ok o6, by show so.length ≤ 3; omega⟩ upd_same (s1.trans (s2.trans (s3.trans (s34.trans (s5.trans (Stp.of (same_new ht _))))))) (R5.stp (same_new ht _))⟩
    have hk : k1 = 0 ∨ k1 = 1 ∨ k1 = 2 := by omega
    rcases hk with e | e | e
    · exact ⟨p, _, k1, V.int 1, rfl, rfl, hL, at_of (j := 0) e rfl, r, a, ns, [65, 66], 0, 1, by rw [AB_eq]; rfl, R4, by decide, by decide, by decide, by decide, fin 1 (by decide)⟩
    · exact ⟨p, _, k1, V.int 1, rfl, rfl, hL, at_of (j := 1) e rfl, r, a, ns, [65, 66], 0, 1, by rw [AB_eq]; rfl, R4, by decide, by decide, by decide, by decide, fin 1 (by decide)⟩
    · exact ⟨p, _, k1, V.int 3, rfl, rfl, hL, at_of (j := 2) e rfl, r, a, ns, [65, 66], 0, 3, by rw [AB_eq]; rfl, R4, by decide, by decide, by decide, by decide, fin 3 (by decide)⟩
abbrev sRules : Stmt := topS 47
theorem scRules : FnScope ["_law_row_here", "_law_letters_here", "_law_most", "_law_found", "_law_letter", "_law_k"] ["_law_row_here", "_law_letters_here", "_law_most"] (defScope sRules) := ⟨rfl, rfl, rfl, by decide +kernel, rfl, by decide +kernel, by decide +kernel⟩
def spRules (K : PySem.W.Frag) : Sp := fun vs H Q _ => ∃ (r a : Addr) (ns : List Int) (L : List Nat) (n : Nat), vs = [.ref r, .str (T L), .int n] ∧ RowAt K H r a ns ∧ 0 < L.length ∧ L.length ≤ 4 ∧ n ≤ 20 ∧
  ∀ (rs : List Rule) (R : Addr) (H' : Hp), (∀ ρ ∈ rs, RuleOk L ρ) → rs.length ≤ n + L.length → RulesAt H' R rs → Stp r H H' → RowAt K H' r a ns → Q (.ref R) H'
theorem ok_rules {f : Addr} {fd : FuncData} (F : Fun K "_law_rules" "_law_rules" sRules f fd) (DT : Df P w K mg base "_law_taken" ["_law_row_here", "_law_many"] 1 (spTaken K))
    (DR : Df P w K mg base "_law_rule" ["_law_row_here", "_law_letters_here"] 3 (spRule K)) (mr : mg "range" = none) (mt : mg "tuple" = none) :
    FnOk P w K mg base CX0 4 f fd ["_law_row_here", "_law_letters_here", "_law_most"] (spRules K) := by
  obtain ⟨fT, fdT, GT, kT, bT, mT⟩ := DT
  obtain ⟨fR, fdR, GR, kR, bR, mR⟩ := DR
  refine F.ok scRules (fun vs H Q E h => ?_) (fun cdv A outer s H vs Q E hr h => ?_)
  · obtain ⟨r, a, ns, L, n, rfl, _⟩ := h
    rfl
  · obtain ⟨r, a, ns, L, n, rfl, R, hl0, hl, hn, q⟩ := h
    have hr1 : Room 1 _ := hr.mono (by decide)
    refine ⟨_, pss_cons (ps_setLc (i := 3) (own := [("_law_k", 5)]) (g := gName 5) rfl scRules.nd rfl rfl (sw_true rfl rfl rfl (by decide +kernel))
        (pi_range1 rfl mr (pa_cons (pe_call GT hr1 (by rfl) mT kT bT .nil pass0 (pa_cons (pv 0) (pa_cons (pe_op op_add (pv 2) pe_int) pa_nil))) pa_nil))
        (blkOk_by (N := ["_law_row_here", "_law_letters_here", "_law_most", "_law_found", "_law_letter", "_law_k"]) (sc := defScope sRules) (by decide +kernel)) (fun _ _ _ _ _ => pg_name (i := 5) scRules.nd rfl (.inl rfl))
        (fun _ _ _ _ _ => pts_nil) (fun _ _ _ _ _ => pe_call GR hr (by rfl) mR kR bR .nil pass0 (pa_cons (pv 0) (pa_cons (pv 1) pa_nil))))
      (pss_cons (ps_if (pt_cmpR op_gt (pe_call GT hr1 (by rfl) mT kT bT .nil pass0 (pa_cons (pv 0) (pa_cons pe_int pa_nil))) pe_int (nomark _))
        (pss_one (ps_for PassesOwn.never rfl (pi_str (pv 1)) (pg_name (i := 4) scRules.nd rfl (.inl rfl))
          (pss_one (ps_expr (pe_bm PySem.F.plainAttrs_list PySem.F.slot_list_append PySem.F.type_list_append mt_append (pv 3)
            (pa_cons (pe_tup (pa_cons pe_str (pa_cons (pv 4) (pa_cons pe_str (pa_cons (pe_ix ix_list (pe_lst (pa_cons pe_str (pa_cons pe_str (pa_cons pe_str (pa_cons pe_str pa_nil))))) (pe_call GT hr1 (by rfl) mT kT bT .nil pass0 (pa_cons (pv 0) (pa_cons pe_int pa_nil))) (fun _ _ => rfl)) pa_nil))))) pa_nil)))))) pss_nil)
      (pss_one (ps_ret (pe_callTy call_tuple_of (by rfl) mt (by decide +kernel) (pa_cons (pv 3) pa_nil))))), ?_⟩
    refine ⟨_, rfl, _, rfl, _, _, rfl, rfl, r, a, ns, _, rfl, R, by omega, by omega, fun k1 H1 h0 h1 s1 R1 => ?_⟩
    refine ⟨k1, rfl, by omega, by omega, fun D hD => ?_⟩
    have nD := R1.nw hD
    refine lc_it (walk_range) (fun i H2 => ∃ (ts : List Addr) (rs : List Rule), H2 D = some (.lst (ts.map V.ref)) ∧ Paired (fun t ρ => H2 t = some (.tup (Rule.vs ρ))) ts rs ∧ rs.length = i ∧ (∀ ρ ∈ rs, RuleOk L ρ) ∧ Stp r H1 H2 ∧ RowIn H2 r a) ?_ (fun _ _ _ _ => trivial) ?_ ?_
    · exact ⟨[], [], upd_same, .nil, rfl, by simp, Stp.of (same_new hD _), R1.in.upd nD⟩
    · rintro i x H2 H2' hi' ⟨ts, rs, e1, e2, e3, e4, e5, e6⟩ ⟨rfl, rfl⟩
      refine ⟨rfl, ?_⟩
      refine ⟨_, rfl, _, rfl, r, a, ns, L, rfl, R1.of e5 e6, hl0, hl, fun ρ t H3 o1 o2 s2 R2 => ?_⟩
      have e1' := s2.one e1 nD
      have kt := (s2.kt e6).trans (kt_upd e1' (o := .lst (ts.map V.ref ++ [.ref t])))
      refine ⟨_, e1', ?_, ts ++ [t], rs ++ [ρ], ?_, ?_, by simp [e3], ?_, (e5.trans s2).put hD _, R2.in.upd nD⟩
      · rw [List.length_map, paired_len e2]
        exact small1000 (by omega)
      · rw [upd_same, List.map_append]
        rfl
      · exact paired_app (paired_mono (fun t ρ h => kt _ _ h) e2) (.cons (kt_upd e1' _ _ o2) .nil)
      · intro c hc
        rcases List.mem_append.mp hc with h | h
        · exact e4 c h
        · rw [List.mem_singleton.mp h]
          exact o1
    · rintro H2 ⟨ts, rs, e1, e2, e3, e4, e5, e6⟩
      have e3' : rs.length ≤ n := by omega
      refine ⟨_, rfl, r, a, ns, 4, rfl, R1.of e5 e6, by decide, by decide, fun k2 H3 h2 h3 s2 R2 => ?_⟩
      have e1' := s2.one e1 nD
      have e2' := paired_mono (fun t ρ h => s2.kt e6 _ _ h) e2
      have e5' := e5.trans s2
      -- the end: tuple(found)
      have fin : ∀ (H4 : Hp) (ts : List Addr) (rs : List Rule), H4 D = some (.lst (ts.map V.ref)) → Paired (fun t ρ => H4 t = some (.tup (Rule.vs ρ))) ts rs → rs.length ≤ n + L.length → (∀ ρ ∈ rs, RuleOk L ρ) → Stp r H1 H4 → RowIn H4 r a → ∀ t, H4 t = none → Q (.ref t) (upd H4 t (.tup (ts.map V.ref))) := fun H4 ts rs f1 f2 f3 f4 f5 f6 t ht =>
        q rs t _ f4 f3 ⟨ts, upd_same, paired_mono (fun t ρ h => kt_new ht _ _ h) f2⟩ (s1.trans (f5.trans (Stp.of (same_new ht _)))) ((R1.of f5 f6).stp (same_new ht _))
      refine ⟨_, _, rfl, rfl, _, rfl, ite2 (fun _ => ?_) (fun _ => ?_)⟩
      · refine ⟨_, rfl, T L, rfl, for_it (walk_str) (fun i σ H4 => ∃ (ts : List Addr) (rs : List Rule) (v : Option V), σ = [some (.ref r), some (.str (T L)), some (.int n), some (.ref D), v, none] ∧ H4 D = some (.lst (ts.map V.ref)) ∧ Paired (fun t ρ => H4 t = some (.tup (Rule.vs ρ))) ts rs ∧ rs.length ≤ n + i ∧ (∀ ρ ∈ rs, RuleOk L ρ) ∧ Stp r H1 H4 ∧ RowIn H4 r a)
          ⟨ts, rs, _, rfl, e1', e2', by omega, e4, e5', R2.in⟩ (fun _ _ _ _ _ => trivial) ?_ ?_⟩
        · rintro i x σ H4 H4' hi' ⟨ts, rs, v, rfl, e1, e2, e3, e4, e5, e6⟩ ⟨rfl, c, hc, rfl⟩
          have hc := T_at hc
          have hi2 : i < L.length := by rw [T_size] at hi'; exact hi'
          have RA := R1.of e5 e6
          refine ⟨_, rfl, .inl ⟨rfl, _, .inl (.inl e1)⟩, _, rfl, (by show 4 ≤ sizeLine; decide), fun p hp => ?_⟩
          have sm := same_new hp (.lst [V.str "A", .str "B", .str "", .str "AB"])
          refine ⟨_, rfl, r, a, ns, 4, rfl, RA.stp sm, by decide, by decide, fun k3 H5 h4 h5 s3 R3 => ?_⟩
          have s3' := (Stp.of sm).trans s3
          have hL : SqL K H5 p [V.str "A", .str "B", .str "", .str "AB"] := .inl (.inl (s3 _ _ upd_same (RA.nw hp).symm))
          have f1 := s3'.one e1 nD
          have kt3 := s3'.kt e6
          have ec : c ∈ L := List.mem_of_getElem? hc
          have ok : ∀ so : List Nat, (∀ c ∈ so, 65 ≤ c ∧ c ≤ 90) → so.length ≤ 3 → RuleOk L ⟨[], [c], [], so⟩ := fun so g1 g2 =>
            ⟨List.nil_sublist _, fun d hd => by rw [List.mem_singleton.mp hd]; exact ec, Nat.le_refl _, by show 1 ≤ 2; decide, List.nil_sublist _, g1, g2⟩
          obtain ⟨so, g1, g2, g3⟩ : ∃ so : List Nat, (∀ c ∈ so, 65 ≤ c ∧ c ≤ 90) ∧ so.length ≤ 3 ∧ atI [V.str "A", .str "B", .str "", .str "AB"] k3 = some (V.str (T so)) := by
            have hk : k3 = 0 ∨ k3 = 1 ∨ k3 = 2 ∨ k3 = 3 := by omega
            rcases hk with e | e | e | e
            · exact ⟨[65], by decide, by decide, at_of (j := 0) e (by decide +kernel)⟩
            · exact ⟨[66], by decide, by decide, at_of (j := 1) e (by decide +kernel)⟩
            · exact ⟨[], by decide, by decide, at_of (j := 2) e (by decide +kernel)⟩
            · exact ⟨[65, 66], by decide, by decide, at_of (j := 3) e (by decide +kernel)⟩
          refine ⟨p, _, k3, V.str (T so), rfl, rfl, hL, g3, (by show 4 ≤ sizeLine; decide), fun t ht => ?_⟩
          have f2 := same_new ht (.tup [.str (Str.ofString ""), .str ⟨#[c]⟩, .str (Str.ofString ""), .str (T so)])
          have f3 := f2 _ _ f1
          have kt4 := (kt3.trans (KT.of f2)).trans (kt_upd f3 (o := .lst (ts.map V.ref ++ [.ref t])))
          refine ⟨D, _, _, rfl, rfl, f3, ?_, ts ++ [t], rs ++ [⟨[], [c], [], so⟩], _, rfl, ?_, ?_, ?_, ?_, ((e5.trans s3').trans (Stp.of f2)).put hD _, ?_⟩
          · rw [List.length_map, paired_len e2]
            exact small1000 (by omega)
          · rw [upd_same, List.map_append]
            rfl
          · refine paired_app (paired_mono (fun t ρ h => kt4 _ _ h) e2) (.cons (kt_upd f3 _ _ ?_) .nil)
            rw [upd_same, show Str.ofString "" = T [] from nil_eq]
            rfl
          · rw [List.length_append]
            show rs.length + 1 ≤ n + (i + 1)
            omega
          · intro d hd
            rcases List.mem_append.mp hd with h | h
            · exact e4 d h
            · rw [List.mem_singleton.mp h]
              exact ok so g1 g2
          · exact (R3.stp f2).in.upd nD
        · rintro σ H4 ⟨ts, rs, v, rfl, e1, e2, e3, e4, e5, e6⟩
          rw [T_size] at e3
          exact ⟨_, rfl, D, _, rfl, .inl ⟨.inl (.inl e1), fin H4 ts rs e1 e2 e3 e4 e5 e6⟩⟩
      · exact ⟨_, rfl, D, _, rfl, .inl ⟨.inl (.inl e1'), fin H3 ts rs e1' e2' (by omega) e4 e5' R2.in⟩⟩
end
end Say
namespace Say
open PySem PySem.Spec PyProof.Rows L2
section
variable {P : Program} {w : World} {K : PySem.W.Frag} {mg : Str → Option Value} {base : Heap}
abbrev sRow : Stmt := topS 41
theorem scRow : FnScope ["_law_script", "_law_mixed", "_law_cell"] ["_law_script"] (defScope sRow) := ⟨rfl, rfl, rfl, by decide +kernel, rfl, by decide +kernel, by decide +kernel⟩
def spRow (K : PySem.W.Frag) : Sp := fun vs H Q _ => ∃ (a : Addr) (ns : List Int), vs = [.ref a] ∧ SqL K H a (ns.map V.int) ∧ ns.length ≤ 63 ∧
  ∀ (r : Addr) (H' : Hp), H r = none → Same H H' → RowAt K H' r a ns → Q (.ref r) H'
theorem map_int_get {ns : List Int} {i : Nat} {x : V} (h : (ns.map V.int)[i]? = some x) : ∃ z, x = V.int z := by
  rw [List.getElem?_map] at h
  cases e : ns[i]? with
  | none => rw [e] at h; cases h
  | some z => rw [e] at h; exact ⟨z, (Option.some.inj h).symm⟩
theorem ok_row {f : Addr} {fd : FuncData} {k : Nat} (F : Fun K "_law_row" "_law_row" sRow f fd) : FnOk P w K mg base CX0 (k + 1) f fd ["_law_script"] (spRow K) := by
  refine F.ok scRow (fun vs H Q E h => ?_) (fun cdv A outer s H vs Q E hr h => ?_)
  · obtain ⟨a, ns, rfl, _⟩ := h
    rfl
  · obtain ⟨a, ns, rfl, hS, hle, q⟩ := h
    refine ⟨_, pss_cons (ps_set (i := 1) scRow.nd rfl (.inl rfl) pe_int)
      (pss_cons (ps_for PassesOwn.never rfl (pi_list (pv 0)) (pg_name (i := 2) scRow.nd rfl (.inl rfl))
        (pss_one (ps_set (i := 1) scRow.nd rfl (.inl rfl) (pe_op op_modN (pe_op op_add (pe_op op_add (pe_op op_mul (pv 1) pe_int) (pv 2)) pe_int) pe_int))))
      (pss_one (ps_ret (pe_lst (pa_cons (pv 0) (pa_cons pe_int (pa_cons pe_int (pa_cons (pv 1) pa_nil)))))))), ?_⟩
    refine ⟨_, rfl, a, rfl, ⟨_, hS⟩, for_list (K := K) (a := a) (xs := ns.map V.int) (fun i σ H2 => H2 = H ∧ ∃ (m : Int) (v : Option V), σ = [some (.ref a), some (.int m), v] ∧ 0 ≤ m ∧ m < 2147483647)
      ⟨rfl, 7, none, rfl, by decide, by decide⟩ (fun i σ H2 _ h => by obtain ⟨rfl, _⟩ := h; exact hS) ?_ ?_⟩
    · rintro i x σ H2 hx ⟨rfl, m, v, rfl, h0, h1⟩
      obtain ⟨z, rfl⟩ := map_int_get hx
      refine ⟨_, rfl, _, _, rfl, rfl, .inl ⟨by omega, by omega⟩, _, rfl, _, _, rfl, rfl, _, _, rfl, rfl, _, _, rfl, rfl, (by show (2147483647 : Int) ≠ 0; decide), ?_⟩
      exact ⟨rfl, _, _, rfl, Int.fmod_nonneg_of_pos _ (by decide), Int.fmod_lt_of_pos _ (by decide)⟩
    · rintro σ H2 ⟨rfl, m, v, rfl, h0, h1⟩
      refine ⟨_, rfl, _, rfl, (by show 4 ≤ sizeLine; decide), fun p hp => ?_⟩
      have sm := same_new hp (.lst [.ref a, .int 0, .int 0, .int m])
      exact q p _ hp sm ⟨⟨0, 0, m, upd_same, by decide, h0, h1⟩, sm.seq hS, hle⟩
end
end Say
namespace Say
open PySem PySem.Spec PyProof.Rows L2 L2.DX
section
variable {P : Program} {w : World} {K : PySem.W.Frag} {mg : Str → Option Value} {base : Heap}
abbrev sLaw : Stmt := topS 52
abbrev nLaw : List Str := ["_law_script", "_law_row_here", "_law_turn", "_law_letters_here", "_law_rules_here", "_law_samples", "_law_k", "_law_word", "_law_plain", "_law_is_so", "_law_due", "_law_book", "_law_again", "_law_found"]
theorem scLaw : FnScope nLaw ["_law_script"] (defScope sLaw) := ⟨rfl, rfl, rfl, by decide +kernel, rfl, by decide +kernel, by decide +kernel⟩
theorem SampsAt.stp {H H' : Hp} {r a S : Addr} {ss : List Exc} (h : SampsAt H S ss) (w : RowIn H r a) (e : Stp r H H') (n : S ≠ r) : SampsAt H' S ss := by
  obtain ⟨ts, h1, h2⟩ := h
  have k := Stp.kt e w
  exact ⟨ts, e _ _ h1 n, paired_mono (fun t ρ q => k _ _ q) h2⟩
theorem SampsAt.kt {H H' : Hp} {S : Addr} {ss : List Exc} (h : SampsAt H S ss) (k : KT H H') (e : ∀ l, H S = some (.lst l) → H' S = some (.lst l)) : SampsAt H' S ss := by
  obtain ⟨ts, h1, h2⟩ := h
  exact ⟨ts, e _ h1, paired_mono (fun t ρ q => k _ _ q) h2⟩
theorem ok_law {f : Addr} {fd : FuncData} (F : Fun K "law" "law" sLaw f fd) (B : Bn mg) (DRo : Df P w K mg base "_law_row" ["_law_script"] 1 (spRow K)) (DT : Df P w K mg base "_law_taken" ["_law_row_here", "_law_many"] 1 (spTaken K))
    (DLe : Df P w K mg base "_law_letters" ["_law_row_here"] 2 (spLetters K)) (DRu : Df P w K mg base "_law_rules" ["_law_row_here", "_law_letters_here", "_law_most"] 4 (spRules K)) (DX : Df P w K mg base "_law_text" ["_law_row_here", "_law_signs", "_law_fewest", "_law_many"] 2 (spText K))
    (DLS : Df P w K mg base "_law_said" ["_law_book", "_law_word"] 3 spLS) (DBl : Df P w K mg base "blamed" ["letters", "rules", "samples"] 8 spBl) (DAl : Df P w K mg base "_law_alike" psAl 2 (spAl K 2)) :
    FnOk P w K mg base CX0 9 f fd ["_law_script"] (spLaw K) := by
  obtain ⟨fRo, fdRo, GRo, kRo, bRo, mRo⟩ := DRo
  obtain ⟨fT, fdT, GT, kT, bT, mT⟩ := DT
  obtain ⟨fLe, fdLe, GLe, kLe, bLe, mLe⟩ := DLe
  obtain ⟨fRu, fdRu, GRu, kRu, bRu, mRu⟩ := DRu
  obtain ⟨fX, fdX, GX, kX, bX, mX⟩ := DX
  obtain ⟨fLS, fdLS, GLS, kLS, bLS, mLS⟩ := DLS
  obtain ⟨fBl, fdBl, GBl, kBl, bBl, mBl⟩ := DBl
  obtain ⟨fAl, fdAl, GAl, kAl, bAl, mAl⟩ := DAl
  refine F.ok scLaw (fun vs H Q E h => ?_) (fun cdv A outer s H vs Q E hr h => ?_)
  · obtain ⟨a, ns, rfl, _⟩ := h
    rfl
  · obtain ⟨a, ns, rfl, hS, hle, q⟩ := h
    have hr1 : Room 1 _ := hr.mono (by decide)
    have hr2 : Room 2 _ := hr.mono (by decide)
    have hr3 : Room 3 _ := hr.mono (by decide)
    have hr4 : Room 4 _ := hr.mono (by decide)
    have hr8 : Room 8 _ := hr
    refine ⟨_, pss_cons (ps_set (i := 1) scLaw.nd rfl (.inl rfl) (pe_call GRo hr1 (by rfl) mRo kRo bRo .nil pass0 (pa_cons (pv 0) pa_nil)))
      (pss_cons (ps_for PassesOwn.never rfl (pi_range1 (by rfl) B.rng (pa_cons pe_int pa_nil)) (pg_name (i := 2) scLaw.nd rfl (.inl rfl)) (pss_cons (ps_set (i := 3) scLaw.nd rfl (.inl rfl) (pe_call GLe hr2 (by rfl) mLe kLe bLe .nil pass0 (pa_cons (pv 1) pa_nil)))
        (pss_cons (ps_par (i := 4) (j := 5) (by rfl) scLaw.nd rfl rfl (by decide) rfl rfl (pa_cons (pe_call GRu hr4 (by rfl) mRu kRu bRu .nil pass0 (pa_cons (pv 1) (pa_cons (pv 3) (pa_cons pe_int pa_nil)))) (pa_cons (pe_lst pa_nil) pa_nil)) (by rfl))
        (pss_cons (ps_for PassesOwn.never rfl (pi_range1 (by rfl) B.rng (pa_cons (pe_call GT hr1 (by rfl) mT kT bT .nil pass0 (pa_cons (pv 1) (pa_cons pe_int pa_nil))) pa_nil)) (pg_name (i := 6) scLaw.nd rfl (.inl rfl)) (pss_cons (ps_set (i := 7) scLaw.nd rfl (.inl rfl) (pe_call GX hr2 (by rfl) mX kX bX .nil pass0 (pa_cons (pv 1) (pa_cons (pv 3) (pa_cons pe_int (pa_cons pe_int pa_nil))))))
          (pss_cons (ps_set (i := 8) scLaw.nd rfl (.inl rfl) (pe_call GLS hr3 (by rfl) mLS kLS bLS .nil pass0 (pa_cons (pe_tup (pa_cons (pv 3) (pa_cons (pv 4) (pa_cons (pe_tup pa_nil) pa_nil)))) (pa_cons (pv 7) pa_nil))))
          (pss_cons (ps_set (i := 9) scLaw.nd rfl (.inl rfl) (pe_and (pe_cmpR op_eq (pe_ix ix_tup (pv 8) pe_int (fun _ _ => rfl)) pe_str (nomark _)) (pe_one (pe_cmpR op_eq (pe_call GT hr1 (by rfl) mT kT bT .nil pass0 (pa_cons (pv 1) (pa_cons pe_int pa_nil))) pe_int (nomark _)))))
          (pss_one (ps_expr (pe_bm PySem.F.plainAttrs_list PySem.F.slot_list_append PySem.F.type_list_append mt_append (pv 5) (pa_cons (pe_tup (pa_cons (pv 7) (pa_cons (pe_ifExp (pt_val (pv 9)) (pe_ix ix_tup (pv 8) pe_int (fun _ _ => rfl)) (pe_call GX hr2 (by rfl) mX kX bX .nil pass0 (pa_cons (pv 1) (pa_cons pe_str (pa_cons pe_int (pa_cons pe_int pa_nil)))))) pa_nil))) pa_nil))))))))
        (pss_cons (ps_par (i := 10) (j := 11) (by rfl) scLaw.nd rfl rfl (by decide) rfl rfl (pa_cons (pe_lst pa_nil) (pa_cons (pe_tup (pa_cons (pv 3) (pa_cons (pv 4) (pa_cons (pe_tup pa_nil) pa_nil)))) pa_nil)) (by rfl))
        (pss_cons (ps_for PassesOwn.never rfl (pi_range1 (by rfl) B.rng (pa_cons (pe_callB call_len (by rfl) B.len PySem.boot_len (pa_cons (pv 5) pa_nil)) pa_nil)) (pg_name (i := 6) scLaw.nd rfl (.inl rfl)) (pss_one (ps_if (pt_cmpR (op_neD hr.units) (pe_call GLS hr3 (by rfl) mLS kLS bLS .nil pass0 (pa_cons (pv 11) (pa_cons (pe_ix ix_tup (pe_ix ix_list (pv 5) (pv 6) (fun _ _ => rfl)) pe_int (fun _ _ => rfl)) pa_nil))) (pe_tup (pa_cons pe_str (pa_cons (pe_ix ix_tup (pe_ix ix_list (pv 5) (pv 6) (fun _ _ => rfl)) pe_int (fun _ _ => rfl)) pa_nil))) (nomark _)) (pss_one (ps_expr (pe_bm PySem.F.plainAttrs_list PySem.F.slot_list_append PySem.F.type_list_append mt_append (pv 10) (pa_cons (pv 6) pa_nil)))) pss_nil)))
        (pss_one (ps_for PassesOwn.never rfl (pi_range1 (by rfl) B.rng (pa_cons pe_int pa_nil)) (pg_name (i := 12) scLaw.nd rfl (.inl rfl)) (pss_cons (ps_set (i := 13) scLaw.nd rfl (.inl rfl) (pe_call GBl hr8 (by rfl) mBl kBl bBl .nil pass0 (pa_cons (pv 3) (pa_cons (pv 4) (pa_cons (pv 5) pa_nil)))))
          (pss_cons (ps_if (pt_not (pt_val (pe_call GAl hr2 (by rfl) mAl kAl bAl .nil pass0 (pa_cons (pv 13) (pa_cons (pv 10) pa_nil))))) (pss_one (ps_ret pe_bl)) pss_nil)
          (pss_one (ps_expr (pe_bm PySem.F.plainAttrs_list PySem.F.slot_list_append PySem.F.type_list_append mt_append (pv 13) (pa_cons pe_int pa_nil))))))))))))))
      (pss_one (ps_ret pe_bl))), ?_⟩
    refine ⟨_, rfl, a, ns, rfl, hS, hle, fun r H1 hr0 s1 R1 => ?_⟩
    refine ⟨4, rfl, by decide, by decide, for_it (walk_range) (fun i σ H2 => RowAt K H2 r a ns ∧ ∃ v2 v3 v4 v5 v6 v7 v8 v9 v10 v11 v12 v13, σ = [some (.ref a), some (.ref r), v2, v3, v4, v5, v6, v7, v8, v9, v10, v11, v12, v13])
      ⟨R1, _, _, _, _, _, _, _, _, _, _, _, _, rfl⟩ (fun _ _ _ _ _ => trivial) ?_ ?_⟩
    · rintro i x σ H2 H2' hi ⟨R2, v2, v3, v4, v5, v6, v7, v8, v9, v10, v11, v12, v13, rfl⟩ ⟨rfl, rfl⟩
      refine ⟨_, rfl, r, a, ns, rfl, R2, fun L H3 hL s3 R3 => ?_⟩
      have oL := lets_ok hL
      have l2 := oL.l2
      have l4 := oL.l4
      refine ⟨_, rfl, _, rfl, r, a, ns, L, 6, rfl, R3, by omega, by omega, by decide, fun rs R H4 ho hlen hR s4 R4 => ?_⟩
      have hrl : rs.length ≤ 10 := by omega
      have hrl' : ∀ ρ ∈ rs, RlOk ρ := fun ρ hρ => (ho ρ hρ).rl oL
      refine ⟨(by show 0 ≤ sizeLine; decide), fun S hSn => ?_⟩
      refine ⟨_, _, rfl, ?_⟩
      have sF : Same H4 (upd H4 S (.lst [])) := same_new hSn _
      have R5 := R4.stp sF
      have nS := R4.nw hSn
      have oS := R4.off hSn
      have hR5 := hR.kt (.of sF)
      have hS5 : SampsAt (upd H4 S (.lst [])) S [] := ⟨[], upd_same, .nil⟩
      generalize upd H4 S (.lst []) = H5 at R5 hR5 hS5 ⊢
      refine ⟨_, rfl, r, a, ns, 13, rfl, R5, by decide, by decide, fun k1 H6 h0 h1 s6 R6 => ?_⟩
      refine ⟨k1, rfl, by omega, by omega, for_it (walk_range) (fun j σ H7 => ∃ (ss : List Exc) (v6 v7 v8 v9 : Option V), σ = [some (.ref a), some (.ref r), some (.int (0 + (i : Int))), some (.str (T L)), some (.ref R), some (.ref S), v6, v7, v8, v9, v10, v11, v12, v13] ∧
          SampsAt H7 S ss ∧ (∀ e ∈ ss, ExcOk L e) ∧ ss.length ≤ j ∧ RulesAt H7 R rs ∧ RowAt K H7 r a ns)
        ⟨[], _, _, _, _, rfl, hS5.stp R5.in s6 nS.symm, by simp, Nat.le_refl _, hR5.kt (R5.kt s6), R6⟩ (fun _ _ _ _ _ => trivial) ?_ ?_⟩
      · rintro j x σ H7 H7' hj ⟨ss, v6', v7', v8', v9', rfl, hS7, hes, hel, hR7, R7⟩ ⟨rfl, rfl⟩
        have hj13 : j < 13 := by omega
        refine ⟨_, rfl, _, rfl, r, a, ns, L, 1, 8, rfl, R7, by omega, by omega, by decide, by decide, fun wd H8 hw1 hw2 hw3 s8 R8 => ?_⟩
        have hS8 := hS7.stp R7.in s8 nS.symm
        have hR8 := hR7.kt (R7.kt s8)
        refine ⟨_, rfl, _, rfl, (by show 0 ≤ sizeLine; decide), fun X hX => ?_⟩
        refine ⟨(by show 3 ≤ sizeLine; decide), fun b hb => ?_⟩
        have sX := same_new hX (.tup [])
        have sb := same_new hb (.tup [.str (T L), .ref R, .ref X])
        have sXb := sX.trans sb
        refine ⟨_, rfl, b, L, rs, [], wd, rfl, ⟨R, X, upd_same, hR8.kt (.of sXb), ⟨[], sb _ _ upd_same, .nil⟩⟩, hrl', by omega, by omega, fun t H9 s9 ht => ?_⟩
        have s89 := sXb.trans s9
        have hS9 := hS8.same s89
        have R9 := R8.stp s89
        have hR9 := hR8.kt (.of s89)
        -- a sample is stored
        have fin : ∀ (so : List Nat) (v9 : Option V) (H10 : Hp), (∀ c ∈ so, 65 ≤ c ∧ c ≤ 90) → so.length ≤ 36 → Stp r H9 H10 → RowAt K H10 r a ns → ∀ (x : Addr), H10 x = none →
            ∃ (acc : List V), (upd H10 x (.tup [.str (T wd), .str (T so)])) S = some (.lst acc) ∧ acc.length < sizeLine ∧
            ∃ (ss : List Exc) (v6 v7 v8 v9' : Option V), [some (V.ref a), some (.ref r), some (.int (0 + (i : Int))), some (.str (T L)), some (.ref R), some (.ref S), some (.int (0 + (j : Int))), some (.str (T wd)), some (.ref t), v9, v10, v11, v12, v13] = [some (V.ref a), some (.ref r), some (.int (0 + (i : Int))), some (.str (T L)), some (.ref R), some (.ref S), v6, v7, v8, v9', v10, v11, v12, v13] ∧
              SampsAt (upd (upd H10 x (.tup [.str (T wd), .str (T so)])) S (.lst (acc ++ [.ref x]))) S ss ∧ (∀ e ∈ ss, ExcOk L e) ∧ ss.length ≤ j + 1 ∧ RulesAt (upd (upd H10 x (.tup [.str (T wd), .str (T so)])) S (.lst (acc ++ [.ref x]))) R rs ∧ RowAt K (upd (upd H10 x (.tup [.str (T wd), .str (T so)])) S (.lst (acc ++ [.ref x]))) r a ns := by
          intro so v9 H10 g1 g2 s10 R10 x hx
          obtain ⟨ts, e1, e2⟩ := hS9.stp R9.in s10 nS.symm
          have sx := same_new hx (.tup [.str (T wd), .str (T so)])
          have e1' := sx _ _ e1
          have kS := kt_upd e1' (o := .lst (ts.map V.ref ++ [.ref x]))
          refine ⟨ts.map V.ref, e1', ?_, ss ++ [(wd, so)], _, _, _, _, rfl, ⟨ts ++ [x], by rw [upd_same, List.map_append]; rfl, paired_app (paired_mono (fun t' e q => kS _ _ (sx _ _ q)) e2) (.cons (kS _ _ upd_same) .nil)⟩, fun e he => ?_, ?_, ((hR9.kt (R9.kt s10)).kt (.of sx)).kt kS, (R10.stp sx).updS nS oS⟩
          · rw [List.length_map, paired_len e2]
            exact small1000 (by omega)
          · rcases List.mem_append.mp he with he | he
            · exact hes e he
            · rw [List.mem_singleton.mp he]
              exact ⟨hw1, hw2, hw3, g1, g2⟩
          · rw [List.length_append]
            show ss.length + 1 ≤ j + 1
            omega
        have text : ∀ (z : List Nat), (∀ c ∈ z, c ∈ [65, 66]) → z.length ≤ 4 → (∀ c ∈ z, 65 ≤ c ∧ c ≤ 90) ∧ z.length ≤ 36 := fun z g1 g3 => ⟨AB_ok g1, by omega⟩
        unfold saidV at ht
        rw [show saidM rs [] wd = sayW rs wd from rfl] at ht
        cases eS : sayW rs wd with
        | some so =>
          rw [eS] at ht
          have ht : H9 t = some (.tup [.str (T []), .str (T so)]) := ht
          obtain ⟨g1, g2⟩ := say_caps ho oL eS
          refine ⟨_, rfl, t, _, 0, .str (T []), rfl, rfl, .inl (.inl ht), atI_nat (j := 0) rfl, rfl, _, rfl, ?_⟩
          rw [dec_nil, decide_eq_true rfl]
          refine iteT ?_
          refine ⟨_, rfl, r, a, ns, 2, rfl, R9, by decide, by decide, fun k2 H10 g3 g4 s10 R10 => ?_⟩
          have nt : t ≠ r := by
            obtain ⟨⟨i', c', m', q', _⟩, _⟩ := R9
            exact ne_of ht q' (by intro z; cases z)
          refine ⟨rfl, ?_⟩
          obtain ⟨ts10, hl10, hp10⟩ := hS9.stp R9.in s10 nS.symm
          refine ⟨_, rfl, .inl ⟨rfl, _, .inl (.inl hl10)⟩, _, rfl, ?_⟩
          refine ⟨_, rfl, _, rfl, ite2 (fun c => ?_) (fun c => ?_)⟩
          · refine ⟨_, rfl, t, _, 1, .str (T so), rfl, rfl, .inl (.inl (s10 _ _ ht nt)), atI_nat (j := 1) rfl, ?_⟩
            refine ⟨(by show 2 ≤ sizeLine; decide), fun x hx => ?_⟩
            obtain ⟨acc, f1, f2, f3⟩ := fin so _ H10 g1 (by omega) s10 R10 x hx
            exact ⟨S, acc, _, rfl, rfl, f1, f2, f3⟩
          · refine ⟨_, rfl, r, a, ns, [65, 66], 0, 4, by rw [AB_eq]; rfl, R10, by decide, by decide, by decide, by decide, fun z H11 g5 g6 g7 s11 R11 => ?_⟩
            obtain ⟨p1, p2⟩ := text z g5 g7
            refine ⟨(by show 2 ≤ sizeLine; decide), fun x hx => ?_⟩
            obtain ⟨acc, f1, f2, f3⟩ := fin z _ H11 p1 p2 (s10.trans s11) R11 x hx
            exact ⟨S, acc, _, rfl, rfl, f1, f2, f3⟩
        | none =>
          rw [eS] at ht
          have ht : H9 t = some (.tup [.str (Str.ofString "unsaid"), optI (W rs wd).2]) := ht
          refine ⟨_, rfl, t, _, 0, .str (Str.ofString "unsaid"), rfl, rfl, .inl (.inl ht), atI_nat (j := 0) rfl, rfl, _, rfl, ?_⟩
          rw [show decide (V.str (Str.ofString "unsaid") = V.str (Str.ofString "")) = false from by decide +kernel]
          refine iteF ?_
          obtain ⟨ts10, hl10, hp10⟩ := id hS9
          refine ⟨_, rfl, .inl ⟨rfl, _, .inl (.inl hl10)⟩, _, rfl, ?_⟩
          refine ⟨_, rfl, _, rfl, iteF ?_⟩
          refine ⟨_, rfl, r, a, ns, [65, 66], 0, 4, by rw [AB_eq]; rfl, R9, by decide, by decide, by decide, by decide, fun z H11 g5 g6 g7 s11 R11 => ?_⟩
          obtain ⟨p1, p2⟩ := text z g5 g7
          refine ⟨(by show 2 ≤ sizeLine; decide), fun x hx => ?_⟩
          obtain ⟨acc, f1, f2, f3⟩ := fin z _ H11 p1 p2 s11 R11 x hx
          exact ⟨S, acc, _, rfl, rfl, f1, f2, f3⟩
      · rintro σ H7 ⟨ss, v6', v7', v8', v9', rfl, hS7, hes, hel, hR7, R7⟩
        have h12 : ss.length ≤ 12 := by omega
        refine ⟨(by show 0 ≤ sizeLine; decide), fun D hD => ?_⟩
        refine ⟨_, rfl, _, rfl, (by show 0 ≤ sizeLine; decide), fun X hX => ?_⟩
        refine ⟨(by show 3 ≤ sizeLine; decide), fun b hb => ?_⟩
        refine ⟨_, _, rfl, ?_⟩
        have sD := same_new hD (.lst [])
        have sX := same_new hX (.tup [])
        have sb := same_new hb (.tup [.str (T L), .ref R, .ref X])
        have sDb := sD.trans (sX.trans sb)
        have hD8 := (sX.trans sb) _ _ (upd_same (H := H7) (a := D) (o := HO.lst []))
        have hB8 : BookAt (upd (upd (upd H7 D (.lst [])) X (.tup [])) b (.tup [.str (T L), .ref R, .ref X])) b L rs [] := ⟨R, X, upd_same, hR7.kt (.of sDb), ⟨[], sb _ _ upd_same, .nil⟩⟩
        have hS8 := hS7.same sDb
        have hR8 := hR7.kt (.of sDb)
        have R8 := R7.stp sDb
        have nD := R7.nw hD
        have oD := R7.off hD
        have nSD : S ≠ D := by
          obtain ⟨ts, e1, _⟩ := hS7
          exact ne_of_none e1 hD
        generalize upd (upd (upd H7 D (.lst [])) X (.tup [])) b (.tup [.str (T L), .ref R, .ref X]) = H8 at hD8 hB8 hS8 hR8 R8 ⊢
        clear sDb sb sX sD
        obtain ⟨ts8, hl8, hp8⟩ := id hS8
        have lts : (ts8.map V.ref).length = ss.length := by rw [List.length_map, paired_len hp8]
        refine ⟨_, rfl, _, _, rfl, .inl ⟨_, .inl (.inl hl8), rfl⟩, _, rfl, by omega, by rw [lts]; omega, ?_⟩
        rw [lts]
        refine for_it (walk_range) (fun j σ H9 => ∃ (v6 : Option V), σ = [some (.ref a), some (.ref r), some (.int (0 + (i : Int))), some (.str (T L)), some (.ref R), some (.ref S), v6, v7', v8', v9', some (.ref D), some (.ref b), v12, v13] ∧
            H9 D = some (.lst (natsV (blamM rs ss j))) ∧ BookAt H9 b L rs [] ∧ SampsAt H9 S ss ∧ RulesAt H9 R rs ∧ RowAt K H9 r a ns) ⟨_, rfl, hD8, hB8, hS8, hR8, R8⟩ (fun _ _ _ _ _ => trivial) ?_ ?_
        · rintro j x σ H9 H9' hj ⟨v6, rfl, hD9, hB9, hS9, hR9, R9⟩ ⟨rfl, rfl⟩
          have hj : j < ss.length := by omega
          obtain ⟨ts9, hl9, hp9⟩ := id hS9
          obtain ⟨x, hx, hxat⟩ := paired_at' hp9 (List.getElem?_eq_getElem hj)
          have oe := hes _ (List.getElem_mem hj)
          have w8 := oe.w8
          have hat : atI (ts9.map V.ref) (0 + (j : Int)) = some (V.ref x) := atI_of (j := j) (by rw [List.getElem?_map, hx]; rfl) (by omega)
          refine ⟨_, rfl, _, rfl, _, rfl, S, _, _, .ref x, rfl, rfl, .inl (.inl hl9), hat, x, _, 0, .str (T ss[j].1), rfl, rfl, .inl (.inl hxat), atI_nat (j := 0) rfl, ?_⟩
          refine ⟨b, L, rs, [], ss[j].1, rfl, hB9, hrl', by omega, by omega, fun t H10 s10 ht => ?_⟩
          refine ⟨_, rfl, _, rfl, S, _, _, .ref x, rfl, rfl, .inl (.inl (s10 _ _ hl9)), hat, x, _, 1, .str (T ss[j].2), rfl, rfl, .inl (.inl (s10 _ _ hxat)), atI_nat (j := 1) rfl, ?_⟩
          refine ⟨(by show 2 ≤ sizeLine; decide), fun u hu => ?_⟩
          have su := same_new hu (.tup [.str (Str.ofString ""), .str (T ss[j].2)])
          obtain ⟨d1, d2, p1, p2, p3, p4, p5⟩ := said_cmp (K := K) (su _ _ ht) (upd_same (H := H10) (a := u) (o := HO.tup [.str (Str.ofString ""), .str (T ss[j].2)]))
            (fun s hs c hc => by have := ((say_caps ho oL hs).1 c hc).2; omega) (fun c hc => by have := (oe.s c hc).2; omega)
          have s911 := s10.trans su
          refine ⟨d1, d2, p1, p2, p3, p4, _, rfl, ?_⟩
          rw [p5]
          have et := blam_next (rs := rs) (List.getElem?_eq_getElem hj)
          have esM : saidM rs [] ss[j].1 = sayW rs ss[j].1 := rfl
          rw [esM]
          have hD11 := s911 _ _ hD9
          refine ite2 (fun c => ?_) (fun c => ?_)
          · have c : ¬ sayW rs ss[j].1 = some ss[j].2 := by simpa using c
            rw [if_neg c] at et
            have kD := kt_upd hD11 (o := .lst (natsV (blamM rs ss j) ++ [.int (0 + (j : Int))]))
            refine ⟨_, rfl, .inl ⟨rfl, _, .inl (.inl hD11)⟩, _, rfl, D, _, _, rfl, rfl, hD11, ?_, ?_⟩
            · unfold natsV
              rw [List.length_map]
              have := blam_len rs ss j
              exact small1000 (by omega)
            · refine ⟨_, rfl, ?_, (hB9.kt (.of s911)).kt kD, (hS9.same s911).kt kD (fun l hl => by rw [upd_ne nSD]; exact hl), (hR9.kt (.of s911)).kt kD, (R9.stp s911).updS nD oD⟩
              rw [upd_same, et]
              unfold natsV
              rw [List.map_append]
              show some (HO.lst (_ ++ [V.int (0 + (j : Int))])) = _
              rw [Int.zero_add]
              rfl
          · have c : sayW rs ss[j].1 = some ss[j].2 := by simpa using c
            rw [if_pos c, List.append_nil] at et
            exact ⟨_, rfl, by rw [et]; exact hD11, hB9.kt (.of s911), hS9.same s911, hR9.kt (.of s911), R9.stp s911⟩
        · rintro σ H9 ⟨v6, rfl, hD9, hB9, hS9, hR9, R9⟩
          rw [show ((ss.length : Nat) : Int).toNat = ss.length by omega] at hD9
          refine ⟨2, rfl, by decide, by decide, for_it (walk_range) (fun j σ H10 => ∃ (v12 v13 : Option V), σ = [some (.ref a), some (.ref r), some (.int (0 + (i : Int))), some (.str (T L)), some (.ref R), some (.ref S), v6, v7', v8', v9', some (.ref D), some (.ref b), v12, v13] ∧
            H10 D = some (.lst (natsV (blamM rs ss ss.length))) ∧ SampsAt H10 S ss ∧ RulesAt H10 R rs ∧ RowAt K H10 r a ns) ⟨_, _, rfl, hD9, hS9, hR9, R9⟩ (fun _ _ _ _ _ => trivial) ?_ ?_⟩
          · rintro j x σ H10 H10' hj ⟨v12, v13, rfl, hD10, hS10, hR10, R10⟩ ⟨rfl, rfl⟩
            refine ⟨_, rfl, _, rfl, _, rfl, L, R, S, rs, ss, rfl, oL, hR10, ho, by omega, hS10, hes, h12, fun D2 H11 s11 hD2 h2 => ?_⟩
            have hD11 := s11 _ _ hD10
            have ln := blam_len rs ss ss.length
            refine ⟨_, rfl, _, rfl, _, _, _, rfl, dp_nats h2, dp_nats hD11, few_nats (by omega), (by show PyData.depthAll _ + 1 < 2; rw [depth_nats]; decide), fun H12 s12 => ⟨true, rfl, iteF ?_⟩⟩
            have s1012 := s11.trans s12
            have h2' := s12 _ _ h2
            have n2 : r ≠ D2 := R10.nw hD2
            have o2 := R10.off hD2
            have nSD2 : S ≠ D2 := by
              obtain ⟨ts, e1, _⟩ := hS10
              exact ne_of_none e1 hD2
            have nDD2 : D ≠ D2 := ne_of_none hD10 hD2
            refine ⟨_, rfl, .inl ⟨rfl, _, .inl (.inl h2')⟩, D2, _, _, rfl, rfl, h2', ?_, ?_⟩
            · unfold natsV
              rw [List.length_map]
              exact small1000 (by omega)
            · have kD := kt_upd h2' (o := .lst (natsV (blamM rs ss ss.length) ++ [.int 0]))
              exact ⟨_, _, rfl, by rw [upd_ne nDD2]; exact s12 _ _ hD11, (hS10.same s1012).kt kD (fun l hl => by rw [upd_ne nSD2]; exact hl), (hR10.kt (.of s1012)).kt kD, (R10.stp s1012).updS n2 o2⟩
          · rintro σ H10 ⟨v12, v13, rfl, hD10, hS10, hR10, R10⟩
            exact ⟨R10, _, _, _, _, _, _, _, _, _, _, _, _, rfl⟩
    · rintro σ H2 ⟨R2, v2, v3, v4, v5, v6, v7, v8, v9, v10, v11, v12, v13, rfl⟩
      exact q _
end
end Say
namespace Say
open PySem PySem.Spec PyProof.Rows L2
/-- a def as the top has left it -/
structure Std (K : PySem.W.Frag) (x : Str) (st : Stmt) (f : Addr) : Prop where
  ns : PySem.W.nsIn K mainGlobals x = some (some (.ref f))
  fn : ∃ fd, Fun K x x st f fd ∧ ∃ kV dc pm an cd ct, fd = PySem.W.fnOf x x (defArgs st) (defBody st) (defScope st) .none kV dc pm an cd ct
theorem std_mk {K : PySem.W.Frag} {x : Str} {st : Stmt} {f : Addr} {oc : Value} {od an : Option Addr} {osl : Array (Option Value)} {kV dc pm cd ct : Value} (a : PySem.W.nsIn K mainGlobals x = some (some (.ref f))) (l : K.lookup f = some ⟨oc, od, .func (PySem.W.fnOf x x (defArgs st) (defBody st) (defScope st) .none kV dc pm an cd ct), osl⟩) (c : PySem.W.codeIn K cd x = true) (k : PySem.W.keepIn K (.ref f) = true) : Std K x st f :=
  ⟨a, _, fun_mk l c k, kV, dc, pm, an, cd, ct, rfl⟩
theorem all_ok {l : PySem.W.OpenLaw} {w : World} {K : PySem.W.Frag} {h : Heap} {mg : Str → Option Value} {fa f21 f22 f17 f16 f19 f20 f18 f14 f15 f26 f27 f28 f32 f33 f29 f30 f31 f39 f38 f37 f36 f41 f42 f43 f44 f45 f46 f47 f48 f49 f50 f51 f52  : Addr} {t_small t_caps t_edge t_mrul t_lexc t_lrs t_lso t_iown t_isounds t_imost_samples : Tok} 
    (X : K.In h) (G : h.Ns mainGlobals mg) (hfa : mg "law" = some (.ref fa))
    (S21 : Std K "is_text" (topS 21) f21)
    (S22 : Std K "is_rising" (topS 22) f22)
    (S17 : Std K "is_beside" (topS 17) f17)
    (S16 : Std K "is_rule" (topS 16) f16)
    (S19 : Std K "is_excepted" (topS 19) f19)
    (S20 : Std K "is_sounds" (topS 20) f20)
    (S18 : Std K "is_exception" (topS 18) f18)
    (S14 : Std K "check_letters" (topS 14) f14)
    (S15 : Std K "check_rules" (topS 15) f15)
    (S26 : Std K "fits" (topS 26) f26)
    (S27 : Std K "first_fit" (topS 27) f27)
    (S28 : Std K "steps_of" (topS 28) f28)
    (S32 : Std K "numbers_of" (topS 32) f32)
    (S33 : Std K "sounds_of" (topS 33) f33)
    (S29 : Std K "ending" (topS 29) f29)
    (S30 : Std K "ending_sounds" (topS 30) f30)
    (S31 : Std K "word_sounds" (topS 31) f31)
    (S39 : Std K "is_said" (topS 39) f39)
    (S38 : Std K "check_samples" (topS 38) f38)
    (S37 : Std K "check_all" (topS 37) f37)
    (S36 : Std K "blamed" (topS 36) f36)
    (S41 : Std K "_law_row" (topS 41) f41)
    (S42 : Std K "_law_taken" (topS 42) f42)
    (S43 : Std K "_law_letters" (topS 43) f43)
    (S44 : Std K "_law_side" (topS 44) f44)
    (S45 : Std K "_law_text" (topS 45) f45)
    (S46 : Std K "_law_rule" (topS 46) f46)
    (S47 : Std K "_law_rules" (topS 47) f47)
    (S48 : Std K "_law_fits" (topS 48) f48)
    (S49 : Std K "_law_walk" (topS 49) f49)
    (S50 : Std K "_law_said" (topS 50) f50)
    (S51 : Std K "_law_alike" (topS 51) f51)
    (S52 : Std K "law" (topS 52) f52)
    (z_len : PySem.W.nsIn K mainGlobals "len" = some none)
    (z_range : PySem.W.nsIn K mainGlobals "range" = some none)
    (z_tuple : PySem.W.nsIn K mainGlobals "tuple" = some none)
    (z_list : PySem.W.nsIn K mainGlobals "list" = some none)
    (z_isinstance : PySem.W.nsIn K mainGlobals "isinstance" = some none)
    (z_str : PySem.W.nsIn K mainGlobals "str" = some none)
    (z_all : PySem.W.nsIn K mainGlobals "all" = some none)
    (z_enumerate : PySem.W.nsIn K mainGlobals "enumerate" = some none)
    (z_sorted : PySem.W.nsIn K mainGlobals "sorted" = some none)
    (z_bool : PySem.W.nsIn K mainGlobals "bool" = some none)
    (c_small : PySem.W.nsIn K mainGlobals "SMALL" = some (some (.str "abcdefghijklmnopqrstuvwxyz" t_small)))
    (c_caps : PySem.W.nsIn K mainGlobals "CAPITALS" = some (some (.str "ABCDEFGHIJKLMNOPQRSTUVWXYZ" t_caps)))
    (c_edge : PySem.W.nsIn K mainGlobals "EDGE" = some (some (.str "#" t_edge)))
    (c_mrul : PySem.W.nsIn K mainGlobals "MOST_RULES" = some (some (.int 12 t_mrul)))
    (c_lexc : PySem.W.nsIn K mainGlobals "LONGEST_EXCEPTION" = some (some (.int 8 t_lexc)))
    (c_lrs : PySem.W.nsIn K mainGlobals "LONGEST_RULE_SOUNDS" = some (some (.int 3 t_lrs)))
    (c_lso : PySem.W.nsIn K mainGlobals "LONGEST_SOUNDS" = some (some (.int 36 t_lso)))
    (c_iown : PySem.W.nsIn K mainGlobals "OWN" = some (some (.int 1 t_iown)))
    (c_isounds : PySem.W.nsIn K mainGlobals "SOUNDS" = some (some (.int 3 t_isounds)))
    (c_imost_samples : PySem.W.nsIn K mainGlobals "MOST_SAMPLES" = some (some (.int 12 t_imost_samples)))
    : ∃ fd : FuncData, (∀ (s : Shared) (v : Value), BindsTo s fd ⟨[v], []⟩ [("_law_script", v)]) ∧ ∀ base : Heap, K.In base → base.Ns mainGlobals mg → FnOk l.prog w K mg base CX0 9 fa fd ["_law_script"] (spLaw K) := by
  have e := hfa.symm.trans (PySem.W.mg_of X G S52.ns)
  cases e
  have B : Bn mg := ⟨PySem.W.mg_none_of X G z_len, PySem.W.mg_none_of X G z_range, PySem.W.mg_none_of X G z_tuple, PySem.W.mg_none_of X G z_list, PySem.W.mg_none_of X G z_isinstance, PySem.W.mg_none_of X G z_str, PySem.W.mg_none_of X G z_all, PySem.W.mg_none_of X G z_enumerate, PySem.W.mg_none_of X G z_sorted, PySem.W.mg_none_of X G z_bool⟩
  have C : Cn mg := ⟨⟨_, PySem.W.mg_of X G c_small⟩, ⟨_, PySem.W.mg_of X G c_caps⟩, ⟨_, PySem.W.mg_of X G c_edge⟩, ⟨_, PySem.W.mg_of X G c_mrul⟩, ⟨_, PySem.W.mg_of X G c_lexc⟩, ⟨_, PySem.W.mg_of X G c_lrs⟩, ⟨_, PySem.W.mg_of X G c_lso⟩⟩
  have KI_OWN : KI mg "OWN" 1 := ⟨_, PySem.W.mg_of X G c_iown⟩
  have KI_SOUNDS : KI mg "SOUNDS" 3 := ⟨_, PySem.W.mg_of X G c_isounds⟩
  have KI_MOST_SAMPLES : KI mg "MOST_SAMPLES" 12 := ⟨_, PySem.W.mg_of X G c_imost_samples⟩
  obtain ⟨fdL, FL, kV, dc, pm, an, cd, ct, eL⟩ := S52.fn
  refine ⟨fdL, fun s v => ?_, fun base _ _ => ?_⟩
  · subst eL
    exact .of_eq rfl
  obtain ⟨d21, F21, _⟩ := S21.fn
  have m21 := PySem.W.mg_of X G S21.ns
  have b21 := F21.binds (ps := ["text", "signs", "least", "most"]) fun _ _ _ _ _ _ us hl => match us, hl with | [_, _, _, _], _ => rfl
  have D_is_text : Df l.prog w K mg base "is_text" ["text", "signs", "least", "most"] 1 spIsText := ⟨_, _, ok_isText F21 B, F21.kp, b21, m21⟩
  obtain ⟨d22, F22, _⟩ := S22.fn
  have m22 := PySem.W.mg_of X G S22.ns
  have b22 := F22.binds (ps := ["text"]) fun _ _ _ _ _ _ us hl => match us, hl with | [_], _ => rfl
  have D_is_rising : Df l.prog w K mg base "is_rising" ["text"] 1 spRise := ⟨_, _, ok_rise F22 B, F22.kp, b22, m22⟩
  obtain ⟨d17, F17, _⟩ := S17.fn
  have m17 := PySem.W.mg_of X G S17.ns
  have b17 := F17.binds (ps := ["letters", "signs"]) fun _ _ _ _ _ _ us hl => match us, hl with | [_, _], _ => rfl
  have D_is_beside : Df l.prog w K mg base "is_beside" ["letters", "signs"] 2 spBeside := ⟨_, _, ok_beside F17 B C D_is_text D_is_rising, F17.kp, b17, m17⟩
  obtain ⟨d16, F16, _⟩ := S16.fn
  have m16 := PySem.W.mg_of X G S16.ns
  have b16 := F16.binds (ps := ["letters", "rule"]) fun _ _ _ _ _ _ us hl => match us, hl with | [_, _], _ => rfl
  have D_is_rule : Df l.prog w K mg base "is_rule" ["letters", "rule"] 3 spIsRule := ⟨_, _, ok_isRule F16 B C D_is_text D_is_beside, F16.kp, b16, m16⟩
  obtain ⟨d19, F19, _⟩ := S19.fn
  have m19 := PySem.W.mg_of X G S19.ns
  have b19 := F19.binds (ps := ["letters", "word"]) fun _ _ _ _ _ _ us hl => match us, hl with | [_, _], _ => rfl
  have D_is_excepted : Df l.prog w K mg base "is_excepted" ["letters", "word"] 2 spExcd := ⟨_, _, ok_excd F19 C D_is_text, F19.kp, b19, m19⟩
  obtain ⟨d20, F20, _⟩ := S20.fn
  have m20 := PySem.W.mg_of X G S20.ns
  have b20 := F20.binds (ps := ["sounds"]) fun _ _ _ _ _ _ us hl => match us, hl with | [_], _ => rfl
  have D_is_sounds : Df l.prog w K mg base "is_sounds" ["sounds"] 2 spIsSo := ⟨_, _, ok_isSo F20 C D_is_text, F20.kp, b20, m20⟩
  obtain ⟨d18, F18, _⟩ := S18.fn
  have m18 := PySem.W.mg_of X G S18.ns
  have b18 := F18.binds (ps := ["letters", "pair"]) fun _ _ _ _ _ _ us hl => match us, hl with | [_, _], _ => rfl
  have D_is_exception : Df l.prog w K mg base "is_exception" ["letters", "pair"] 3 spIsExc := ⟨_, _, ok_isExc F18 B D_is_excepted D_is_sounds, F18.kp, b18, m18⟩
  obtain ⟨d14, F14, _⟩ := S14.fn
  have m14 := PySem.W.mg_of X G S14.ns
  have b14 := F14.binds (ps := ["letters"]) fun _ _ _ _ _ _ us hl => match us, hl with | [_], _ => rfl
  have D_check_letters : Df l.prog w K mg base "check_letters" ["letters"] 2 spChL := ⟨_, _, ok_chL F14 C D_is_text D_is_rising, F14.kp, b14, m14⟩
  obtain ⟨d15, F15, _⟩ := S15.fn
  have m15 := PySem.W.mg_of X G S15.ns
  have b15 := F15.binds (ps := ["letters", "rules"]) fun _ _ _ _ _ _ us hl => match us, hl with | [_, _], _ => rfl
  have D_check_rules : Df l.prog w K mg base "check_rules" ["letters", "rules"] 4 spChR := ⟨_, _, ok_chR F15 B C D_is_rule, F15.kp, b15, m15⟩
  obtain ⟨d26, F26, _⟩ := S26.fn
  have m26 := PySem.W.mg_of X G S26.ns
  have b26 := F26.binds (ps := ["rule", "signs", "at"]) fun _ _ _ _ _ _ us hl => match us, hl with | [_, _, _], _ => rfl
  have D_fits : Df l.prog w K mg base "fits" ["rule", "signs", "at"] 1 spFits := ⟨_, _, ok_fits F26 B, F26.kp, b26, m26⟩
  obtain ⟨d27, F27, _⟩ := S27.fn
  have m27 := PySem.W.mg_of X G S27.ns
  have b27 := F27.binds (ps := ["rules", "signs", "at"]) fun _ _ _ _ _ _ us hl => match us, hl with | [_, _, _], _ => rfl
  have D_first_fit : Df l.prog w K mg base "first_fit" ["rules", "signs", "at"] 2 spFF := ⟨_, _, ok_FF F27 B D_fits, F27.kp, b27, m27⟩
  obtain ⟨d28, F28, _⟩ := S28.fn
  have m28 := PySem.W.mg_of X G S28.ns
  have b28 := F28.binds (ps := ["rules", "tail"]) fun _ _ _ _ _ _ us hl => match us, hl with | [_, _], _ => rfl
  have D_steps_of : Df l.prog w K mg base "steps_of" ["rules", "tail"] 3 spSt := ⟨_, _, ok_St F28 B C KI_OWN D_first_fit, F28.kp, b28, m28⟩
  obtain ⟨d32, F32, _⟩ := S32.fn
  have m32 := PySem.W.mg_of X G S32.ns
  have b32 := F32.binds (ps := ["steps"]) fun _ _ _ _ _ _ us hl => match us, hl with | [_], _ => rfl
  have D_numbers_of : Df l.prog w K mg base "numbers_of" ["steps"] 1 spNum := ⟨_, _, ok_num F32, F32.kp, b32, m32⟩
  obtain ⟨d33, F33, _⟩ := S33.fn
  have m33 := PySem.W.mg_of X G S33.ns
  have b33 := F33.binds (ps := ["rules", "numbers"]) fun _ _ _ _ _ _ us hl => match us, hl with | [_, _], _ => rfl
  have D_sounds_of : Df l.prog w K mg base "sounds_of" ["rules", "numbers"] 1 spSou := ⟨_, _, ok_sou F33 KI_SOUNDS, F33.kp, b33, m33⟩
  obtain ⟨d29, F29, _⟩ := S29.fn
  have m29 := PySem.W.mg_of X G S29.ns
  have b29 := F29.binds (ps := ["rules", "tail"]) fun _ _ _ _ _ _ us hl => match us, hl with | [_, _], _ => rfl
  have D_ending : Df l.prog w K mg base "ending" ["rules", "tail"] 4 spEnd := ⟨_, _, ok_end F29 D_steps_of D_numbers_of, F29.kp, b29, m29⟩
  obtain ⟨d30, F30, _⟩ := S30.fn
  have m30 := PySem.W.mg_of X G S30.ns
  have b30 := F30.binds (ps := ["rules", "tail"]) fun _ _ _ _ _ _ us hl => match us, hl with | [_, _], _ => rfl
  have D_ending_sounds : Df l.prog w K mg base "ending_sounds" ["rules", "tail"] 5 spEnS := ⟨_, _, ok_enS F30 D_ending D_sounds_of, F30.kp, b30, m30⟩
  obtain ⟨d31, F31, _⟩ := S31.fn
  have m31 := PySem.W.mg_of X G S31.ns
  have b31 := F31.binds (ps := ["rules", "word"]) fun _ _ _ _ _ _ us hl => match us, hl with | [_, _], _ => rfl
  have D_word_sounds : Df l.prog w K mg base "word_sounds" ["rules", "word"] 6 spWS := ⟨_, _, ok_WS F31 C D_ending_sounds, F31.kp, b31, m31⟩
  obtain ⟨d39, F39, _⟩ := S39.fn
  have m39 := PySem.W.mg_of X G S39.ns
  have b39 := F39.binds (ps := ["rules", "sample"]) fun _ _ _ _ _ _ us hl => match us, hl with | [_, _], _ => rfl
  have D_is_said : Df l.prog w K mg base "is_said" ["rules", "sample"] 7 spIsSaid := ⟨_, _, ok_isSaid F39 D_word_sounds, F39.kp, b39, m39⟩
  obtain ⟨d38, F38, _⟩ := S38.fn
  have m38 := PySem.W.mg_of X G S38.ns
  have b38 := F38.binds (ps := ["letters", "samples"]) fun _ _ _ _ _ _ us hl => match us, hl with | [_, _], _ => rfl
  have D_check_samples : Df l.prog w K mg base "check_samples" ["letters", "samples"] 4 spChS := ⟨_, _, ok_chS F38 B KI_MOST_SAMPLES D_is_exception, F38.kp, b38, m38⟩
  obtain ⟨d37, F37, _⟩ := S37.fn
  have m37 := PySem.W.mg_of X G S37.ns
  have b37 := F37.binds (ps := ["letters", "rules", "samples"]) fun _ _ _ _ _ _ us hl => match us, hl with | [_, _, _], _ => rfl
  have D_check_all : Df l.prog w K mg base "check_all" ["letters", "rules", "samples"] 5 spChA := ⟨_, _, ok_chA F37 D_check_letters D_check_rules D_check_samples, F37.kp, b37, m37⟩
  obtain ⟨d36, F36, _⟩ := S36.fn
  have m36 := PySem.W.mg_of X G S36.ns
  have b36 := F36.binds (ps := ["letters", "rules", "samples"]) fun _ _ _ _ _ _ us hl => match us, hl with | [_, _, _], _ => rfl
  have D_blamed : Df l.prog w K mg base "blamed" ["letters", "rules", "samples"] 8 spBl := ⟨_, _, ok_bl F36 B D_check_all D_is_said, F36.kp, b36, m36⟩
  obtain ⟨d41, F41, _⟩ := S41.fn
  have m41 := PySem.W.mg_of X G S41.ns
  have b41 := F41.binds (ps := ["_law_script"]) fun _ _ _ _ _ _ us hl => match us, hl with | [_], _ => rfl
  have D__law_row : Df l.prog w K mg base "_law_row" ["_law_script"] 1 (spRow K) := ⟨_, _, ok_row F41, F41.kp, b41, m41⟩
  obtain ⟨d42, F42, _⟩ := S42.fn
  have m42 := PySem.W.mg_of X G S42.ns
  have b42 := F42.binds (ps := ["_law_row_here", "_law_many"]) fun _ _ _ _ _ _ us hl => match us, hl with | [_, _], _ => rfl
  have D__law_taken : Df l.prog w K mg base "_law_taken" ["_law_row_here", "_law_many"] 1 (spTaken K) := ⟨_, _, ok_taken F42 B.len, F42.kp, b42, m42⟩
  obtain ⟨d43, F43, _⟩ := S43.fn
  have m43 := PySem.W.mg_of X G S43.ns
  have b43 := F43.binds (ps := ["_law_row_here"]) fun _ _ _ _ _ _ us hl => match us, hl with | [_], _ => rfl
  have D__law_letters : Df l.prog w K mg base "_law_letters" ["_law_row_here"] 2 (spLetters K) := ⟨_, _, ok_letters F43 D__law_taken, F43.kp, b43, m43⟩
  obtain ⟨d44, F44, _⟩ := S44.fn
  have m44 := PySem.W.mg_of X G S44.ns
  have b44 := F44.binds (ps := ["_law_row_here", "_law_letters_here"]) fun _ _ _ _ _ _ us hl => match us, hl with | [_, _], _ => rfl
  have D__law_side : Df l.prog w K mg base "_law_side" ["_law_row_here", "_law_letters_here"] 2 (spSide K) := ⟨_, _, ok_side F44 D__law_taken, F44.kp, b44, m44⟩
  obtain ⟨d45, F45, _⟩ := S45.fn
  have m45 := PySem.W.mg_of X G S45.ns
  have b45 := F45.binds (ps := ["_law_row_here", "_law_signs", "_law_fewest", "_law_many"]) fun _ _ _ _ _ _ us hl => match us, hl with | [_, _, _, _], _ => rfl
  have D__law_text : Df l.prog w K mg base "_law_text" ["_law_row_here", "_law_signs", "_law_fewest", "_law_many"] 2 (spText K) := ⟨_, _, ok_text F45 D__law_taken B.len B.rng, F45.kp, b45, m45⟩
  obtain ⟨d46, F46, _⟩ := S46.fn
  have m46 := PySem.W.mg_of X G S46.ns
  have b46 := F46.binds (ps := ["_law_row_here", "_law_letters_here"]) fun _ _ _ _ _ _ us hl => match us, hl with | [_, _], _ => rfl
  have D__law_rule : Df l.prog w K mg base "_law_rule" ["_law_row_here", "_law_letters_here"] 3 (spRule K) := ⟨_, _, ok_rule F46 D__law_taken D__law_side D__law_text, F46.kp, b46, m46⟩
  obtain ⟨d47, F47, _⟩ := S47.fn
  have m47 := PySem.W.mg_of X G S47.ns
  have b47 := F47.binds (ps := ["_law_row_here", "_law_letters_here", "_law_most"]) fun _ _ _ _ _ _ us hl => match us, hl with | [_, _, _], _ => rfl
  have D__law_rules : Df l.prog w K mg base "_law_rules" ["_law_row_here", "_law_letters_here", "_law_most"] 4 (spRules K) := ⟨_, _, ok_rules F47 D__law_taken D__law_rule B.rng B.tup, F47.kp, b47, m47⟩
  obtain ⟨d48, F48, _⟩ := S48.fn
  have m48 := PySem.W.mg_of X G S48.ns
  have b48 := F48.binds (ps := ["_law_rule_here", "_law_word", "_law_place"]) fun _ _ _ _ _ _ us hl => match us, hl with | [_, _, _], _ => rfl
  have D__law_fits : Df l.prog w K mg base "_law_fits" ["_law_rule_here", "_law_word", "_law_place"] 1 spLF := ⟨_, _, ok_LF F48 B, F48.kp, b48, m48⟩
  obtain ⟨d49, F49, _⟩ := S49.fn
  have m49 := PySem.W.mg_of X G S49.ns
  have b49 := F49.binds (ps := ["_law_rules_here", "_law_word"]) fun _ _ _ _ _ _ us hl => match us, hl with | [_, _], _ => rfl
  have D__law_walk : Df l.prog w K mg base "_law_walk" ["_law_rules_here", "_law_word"] 2 spLW := ⟨_, _, ok_LW F49 B D__law_fits, F49.kp, b49, m49⟩
  obtain ⟨d50, F50, _⟩ := S50.fn
  have m50 := PySem.W.mg_of X G S50.ns
  have b50 := F50.binds (ps := ["_law_book", "_law_word"]) fun _ _ _ _ _ _ us hl => match us, hl with | [_, _], _ => rfl
  have D__law_said : Df l.prog w K mg base "_law_said" ["_law_book", "_law_word"] 3 spLS := ⟨_, _, ok_LS F50 D__law_walk, F50.kp, b50, m50⟩
  obtain ⟨d51, F51, _⟩ := S51.fn
  have m51 := PySem.W.mg_of X G S51.ns
  have b51 := F51.binds (ps := ["_law_found", "_law_due"]) fun _ _ _ _ _ _ us hl => match us, hl with | [_, _], _ => rfl
  have D__law_alike : Df l.prog w K mg base "_law_alike" ["_law_found", "_law_due"] 2 (spAl K 2) := ⟨_, _, al_all F51 b51 m51 B 2, F51.kp, b51, m51⟩
  exact ok_law FL B D__law_row D__law_taken D__law_letters D__law_rules D__law_text D__law_said D_blamed D__law_alike
end Say
open PySem PySem.W PyProof.Rows
set_option maxRecDepth 100000 in
set_option maxHeartbeats 0 in
theorem PySem.Challenge.cw_saylore_k17_samples_blamed_holds : PySem.Challenge.rw_saylore_k17_samples_blamed.Holds := by
  w_on; o_law; k_head; (case hw => w_witness2)
  k_fill
  refine L2.walk_of (l := PySem.Challenge.rw_saylore_k17_samples_blamed) (n := 63) (k := 9) (x := "_law_script") (CX := fun _ => L2.CX0) (sp := fun w => Say.spLaw _) rfl (by decide) rfl ⟨rfl, by decide, by decide⟩ (fun w h Y => PySem.W.kIn_of Y) ?F (fun _ _ a ns hl _ hS => ⟨a, ns, rfl, hS, hl, fun _ => rfl⟩) (fun _ _ _ _ _ h => h)
  case F =>
    intro w mg fa h KX G hmg
    refine' Say.all_ok KX G hmg (Say.std_mk ?a21 ?l21 ?c21 ?k21) (Say.std_mk ?a22 ?l22 ?c22 ?k22) (Say.std_mk ?a17 ?l17 ?c17 ?k17) (Say.std_mk ?a16 ?l16 ?c16 ?k16) (Say.std_mk ?a19 ?l19 ?c19 ?k19) (Say.std_mk ?a20 ?l20 ?c20 ?k20) (Say.std_mk ?a18 ?l18 ?c18 ?k18) (Say.std_mk ?a14 ?l14 ?c14 ?k14) (Say.std_mk ?a15 ?l15 ?c15 ?k15) (Say.std_mk ?a26 ?l26 ?c26 ?k26) (Say.std_mk ?a27 ?l27 ?c27 ?k27) (Say.std_mk ?a28 ?l28 ?c28 ?k28) (Say.std_mk ?a32 ?l32 ?c32 ?k32) (Say.std_mk ?a33 ?l33 ?c33 ?k33) (Say.std_mk ?a29 ?l29 ?c29 ?k29) (Say.std_mk ?a30 ?l30 ?c30 ?k30) (Say.std_mk ?a31 ?l31 ?c31 ?k31) (Say.std_mk ?a39 ?l39 ?c39 ?k39) (Say.std_mk ?a38 ?l38 ?c38 ?k38) (Say.std_mk ?a37 ?l37 ?c37 ?k37) (Say.std_mk ?a36 ?l36 ?c36 ?k36) (Say.std_mk ?a41 ?l41 ?c41 ?k41) (Say.std_mk ?a42 ?l42 ?c42 ?k42) (Say.std_mk ?a43 ?l43 ?c43 ?k43) (Say.std_mk ?a44 ?l44 ?c44 ?k44) (Say.std_mk ?a45 ?l45 ?c45 ?k45) (Say.std_mk ?a46 ?l46 ?c46 ?k46) (Say.std_mk ?a47 ?l47 ?c47 ?k47) (Say.std_mk ?a48 ?l48 ?c48 ?k48) (Say.std_mk ?a49 ?l49 ?c49 ?k49) (Say.std_mk ?a50 ?l50 ?c50 ?k50) (Say.std_mk ?a51 ?l51 ?c51 ?k51) (Say.std_mk ?a52 ?l52 ?c52 ?k52) ?z_len ?z_range ?z_tuple ?z_list ?z_isinstance ?z_str ?z_all ?z_enumerate ?z_sorted ?z_bool ?c_small ?c_caps ?c_edge ?c_mrul ?c_lexc ?c_lrs ?c_lso ?c_iown ?c_isounds ?c_imost_samples
    (case a21 => k_is); (case l21 => k_is); (case c21 => k_is); (case k21 => k_is); (case a22 => k_is); (case l22 => k_is)
    (case c22 => k_is); (case k22 => k_is); (case a17 => k_is); (case l17 => k_is); (case c17 => k_is); (case k17 => k_is)
    (case a16 => k_is); (case l16 => k_is); (case c16 => k_is); (case k16 => k_is); (case a19 => k_is); (case l19 => k_is)
    (case c19 => k_is); (case k19 => k_is); (case a20 => k_is); (case l20 => k_is); (case c20 => k_is); (case k20 => k_is)
    (case a18 => k_is); (case l18 => k_is); (case c18 => k_is); (case k18 => k_is); (case a14 => k_is); (case l14 => k_is)
    (case c14 => k_is); (case k14 => k_is); (case a15 => k_is); (case l15 => k_is); (case c15 => k_is); (case k15 => k_is)
    (case a26 => k_is); (case l26 => k_is); (case c26 => k_is); (case k26 => k_is); (case a27 => k_is); (case l27 => k_is)
    (case c27 => k_is); (case k27 => k_is); (case a28 => k_is); (case l28 => k_is); (case c28 => k_is); (case k28 => k_is)
    (case a32 => k_is); (case l32 => k_is); (case c32 => k_is); (case k32 => k_is); (case a33 => k_is); (case l33 => k_is)
    (case c33 => k_is); (case k33 => k_is); (case a29 => k_is); (case l29 => k_is); (case c29 => k_is); (case k29 => k_is)
    (case a30 => k_is); (case l30 => k_is); (case c30 => k_is); (case k30 => k_is); (case a31 => k_is); (case l31 => k_is)
    (case c31 => k_is); (case k31 => k_is); (case a39 => k_is); (case l39 => k_is); (case c39 => k_is); (case k39 => k_is)
    (case a38 => k_is); (case l38 => k_is); (case c38 => k_is); (case k38 => k_is); (case a37 => k_is); (case l37 => k_is)
    (case c37 => k_is); (case k37 => k_is); (case a36 => k_is); (case l36 => k_is); (case c36 => k_is); (case k36 => k_is)
    (case a41 => k_is); (case l41 => k_is); (case c41 => k_is); (case k41 => k_is); (case a42 => k_is); (case l42 => k_is)
    (case c42 => k_is); (case k42 => k_is); (case a43 => k_is); (case l43 => k_is); (case c43 => k_is); (case k43 => k_is)
    (case a44 => k_is); (case l44 => k_is); (case c44 => k_is); (case k44 => k_is); (case a45 => k_is); (case l45 => k_is)
    (case c45 => k_is); (case k45 => k_is); (case a46 => k_is); (case l46 => k_is); (case c46 => k_is); (case k46 => k_is)
    (case a47 => k_is); (case l47 => k_is); (case c47 => k_is); (case k47 => k_is); (case a48 => k_is); (case l48 => k_is)
    (case c48 => k_is); (case k48 => k_is); (case a49 => k_is); (case l49 => k_is); (case c49 => k_is); (case k49 => k_is)
    (case a50 => k_is); (case l50 => k_is); (case c50 => k_is); (case k50 => k_is); (case a51 => k_is); (case l51 => k_is)
    (case c51 => k_is); (case k51 => k_is); (case a52 => k_is); (case l52 => k_is); (case c52 => k_is); (case k52 => k_is)
    (case z_len => k_is); (case z_range => k_is); (case z_tuple => k_is); (case z_list => k_is); (case z_isinstance => k_is); (case z_str => k_is)
    (case z_all => k_is); (case z_enumerate => k_is); (case z_sorted => k_is); (case z_bool => k_is); (case c_small => k_is); (case c_caps => k_is)
    (case c_edge => k_is); (case c_mrul => k_is); (case c_lexc => k_is); (case c_lrs => k_is); (case c_lso => k_is); (case c_iown => k_is)
    (case c_isounds => k_is); (case c_imost_samples => k_is)
