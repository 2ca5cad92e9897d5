import PyProof.Rows.All
import Wide.All
import OpenK.AllK
import Wide.FinOn
import HandS.ForMost
import HandS.IsInst
import HandS.Walk
import HandS.SortRule
import HandS.DictTup
import HandS.ListItems
import HandS.Conv
import HandS.More
import KE.GoesEnum
import KE.GoesMore
import PySem.Challenge.RW_saylore_k16_the_fewest_rules
import PyProof.ConsumeS
import PyProof.GenQ
import HandS.AnyAll
import HandS.GenOver
import HandS.GenList
import HandS.Lambda
import PyProof.ZipIter
import HandS.Zip0
import KE.DatumOrd
import HandS.TupAny
import KE.KDictPairs
import HandS.EndOwn
import KE.KNestM
import KE.RegKSuper
set_option Elab.async false
set_option linter.all false
set_option maxRecDepth 100000
set_option maxHeartbeats 16000000
namespace Say
open PySem PySem.Spec PyProof.Rows L2
/-! ### the text by places -/
def topS (i : Nat) : Stmt := PySem.Challenge.pw_saylore_k16_the_fewest_rules.main.body.getD i (.Pass ⟨0, 0, 0, 0⟩)
/-! ### texts as lists of signs -/
abbrev T (l : List Nat) : Str := ⟨l.toArray⟩
theorem T_list (z : Str) : T z.cps.toList = z := by
  cases z; rfl
@[simp] theorem T_cps (l : List Nat) : (T l).cps.toList = l := rfl
theorem T_len (l : List Nat) : (T l).length = l.length := by
  show l.toArray.size = l.length
  simp
theorem T_inj {a b : List Nat} (h : T a = T b) : a = b := by
  have := congrArg (fun z : Str => z.cps.toList) h
  exact this
/-! ### heaps -/
/-- all that was tracked is as it was, but at r -/
def Stp (r : Addr) (H H' : Hp) : Prop := ∀ b o, H b = some o → b ≠ r → H' b = some o
theorem Stp.refl (r : Addr) (H : Hp) : Stp r H H := fun _ _ h _ => h
theorem Stp.trans {r : Addr} {H H1 H2 : Hp} (a : Stp r H H1) (b : Stp r H1 H2) : Stp r H H2 := fun c o h n => b c o (a c o h n) n
theorem Stp.of {r : Addr} {H H' : Hp} (e : Same H H') : Stp r H H' := fun b o h _ => e b o h
theorem Stp.seq {K : PySem.W.Frag} {r a : Addr} {H H' : Hp} {xs : List V} (e : Stp r H H') (n : a ≠ r) (h : SqL K H a xs) : SqL K H' a xs := by
  rcases h with (h | ⟨o, h⟩) | h
  · exact .inl (.inl (e _ _ h n))
  · exact .inl (.inr ⟨o, e _ _ h n⟩)
  · exact .inr h
theorem same_new {H : Hp} {p : Addr} (h : H p = none) (o : HO) : Same H (upd H p o) := fun b u q => by rw [upd_ne (ne_of_none q h)]; exact q
theorem stp_at {r : Addr} {H : Hp} (o : HO) : Stp r H (upd H r o) := fun b u q n => by rw [upd_ne n]; exact q
/-- tuples stay (frozen ones: as they were made) -/
def KT (H H' : Hp) : Prop := (∀ t xs, H t = some (.tup xs) → H' t = some (.tup xs)) ∧ ∀ t o xs, H t = some (.frz o (.tup xs)) → H' t = some (.frz o (.tup xs))
theorem KT.by {H H' : Hp} (f : ∀ t u, H t = some u → ((∃ xs, u = .tup xs) ∨ ∃ o xs, u = .frz o (.tup xs)) → H' t = some u) : KT H H' := ⟨fun t xs h => f t _ h (.inl ⟨xs, rfl⟩), fun t o xs h => f t _ h (.inr ⟨o, xs, rfl⟩)⟩
theorem KT.refl (H : Hp) : KT H H := ⟨fun _ _ h => h, fun _ _ _ h => h⟩
theorem KT.trans {H H1 H2 : Hp} (a : KT H H1) (b : KT H1 H2) : KT H H2 := ⟨fun t xs h => b.1 t xs (a.1 t xs h), fun t o xs h => b.2 t o xs (a.2 t o xs h)⟩
theorem KT.of {H H' : Hp} (e : Same H H') : KT H H' := ⟨fun t xs h => e t _ h, fun t o xs h => e t _ h⟩
/-- the row that is drawn from: the script at a -/
structure RowAt (K : PySem.W.Frag) (H : Hp) (r a : Addr) (ns : List Int) : Prop where
  row : ∃ i c m : Int, H r = some (.lst [.ref a, .int i, .int c, .int m]) ∧ 0 ≤ i ∧ 0 ≤ m ∧ m < 2147483647
  scr : SqL K H a (ns.map V.int)
  le : ns.length ≤ 63
theorem ints_ne {ns : List Int} {a : Addr} {l : List V} : ns.map V.int ≠ V.ref a :: l := by
  cases ns with
  | nil => intro z; cases z
  | cons x r => intro z; cases z
theorem Stp.scr {K : PySem.W.Frag} {r a : Addr} {H H' : Hp} {ns : List Int} {l : List V} (e : Stp r H H') (hr : H r = some (.lst (.ref a :: l))) (h : SqL K H a (ns.map V.int)) : SqL K H' a (ns.map V.int) := by
  rcases h with (h | ⟨o, h⟩) | h
  · refine .inl (.inl (e _ _ h fun z => ?_))
    subst z
    rw [hr] at h
    exact ints_ne (HO.lst.inj (Option.some.inj h)).symm
  · refine .inl (.inr ⟨o, e _ _ h fun z => ?_⟩)
    subst z
    rw [hr] at h
    cases h
  · exact .inr h
theorem RowAt.stp {K : PySem.W.Frag} {H H' : Hp} {r a : Addr} {ns : List Int} (R : RowAt K H r a ns) (e : Same H H') : RowAt K H' r a ns := by
  obtain ⟨⟨i, c, m, h, q⟩, s, l⟩ := R
  exact ⟨⟨i, c, m, e _ _ h, q⟩, e.seq s, l⟩
theorem RowAt.kt {K : PySem.W.Frag} {H H' : Hp} {r a : Addr} {ns : List Int} (R : RowAt K H r a ns) (e : Stp r H H') : KT H H' := KT.by fun t u h hu => by
  obtain ⟨⟨i, c, m, q, _⟩, _⟩ := R
  exact e t _ h (ne_of h q (by rcases hu with ⟨_, rfl⟩ | ⟨_, _, rfl⟩ <;> (intro z; cases z)))
theorem RowAt.put {K : PySem.W.Frag} {H : Hp} {r a : Addr} {ns : List Int} (R : RowAt K H r a ns) {i c m : Int} (h0 : 0 ≤ i) (h1 : 0 ≤ m) (h2 : m < 2147483647) : RowAt K (upd H r (.lst [.ref a, .int i, .int c, .int m])) r a ns := by
  obtain ⟨⟨i', c', m', q, _⟩, s, l⟩ := R
  exact ⟨⟨i, c, m, upd_same, h0, h1, h2⟩, (stp_at _).scr q s, l⟩
theorem small {n : Nat} (h : n ≤ 16000000) : n ≤ sizeLine := Nat.le_trans h (by decide)
theorem smallM {n : Nat} (h : n ≤ 16000000) : n < sizeLine := Nat.lt_of_le_of_lt h (by decide)
/-- law's promise -/
def spLaw (K : PySem.W.Frag) : Sp := fun vs H Q _ => ∃ (a : Addr) (ns : List Int), vs = [.ref a] ∧ SqL K H a (ns.map V.int) ∧ ns.length ≤ 63 ∧ ∀ H', Q (.bl true) H'
/-- _law_taken -/
def spTaken (K : PySem.W.Frag) : Sp := fun vs H Q _ => ∃ (r a : Addr) (ns : List Int) (n : Int), vs = [.ref r, .int n] ∧ RowAt K H r a ns ∧ 0 < n ∧ n < 100000 ∧
  ∀ (k : Int) (H' : Hp), 0 ≤ k → k < n → Stp r H H' → RowAt K H' r a ns → Q (.int k) H'
end Say
namespace Say
open PySem PySem.Spec PyProof.Rows L2
theorem T_app (a b : List Nat) : T a ++ T b = T (a ++ b) := TL.ext_tl (by rw [TL.tl_append])
theorem hash_eq : ("#" : Str) = T [35] := by decide +kernel
theorem nil_eq : ("" : Str) = T [] := by decide +kernel
theorem joinL_nil : ∀ ls : List (List Nat), TL.joinL [] ls = ls.flatten
  | [] => rfl
  | [p] => by simp [TL.joinL]
  | p :: q :: r => by
    show p ++ ([] ++ TL.joinL [] (q :: r)) = _
    rw [joinL_nil (q :: r)]
    simp
theorem join_nil (ls : List (List Nat)) : Txt.join (T []) (ls.map T) = T ls.flatten := by
  refine TL.ext_tl ?_
  rw [TL.join_eq, TL.tl_join]
  show TL.joinL [] ((ls.map T).map TL.tl) = ls.flatten
  rw [List.map_map, ← joinL_nil]
  congr 1
  exact List.map_id' ls
theorem map_single : ∀ l : List Nat, (l.map fun c => [c]).flatten = l
  | [] => rfl
  | c :: r => by
    show [c] ++ (r.map fun c => [c]).flatten = c :: r
    rw [map_single r]; rfl
/-- the row's own list -/
def RowIn (H : Hp) (r a : Addr) : Prop := ∃ i c m : Int, H r = some (.lst [.ref a, .int i, .int c, .int m]) ∧ 0 ≤ i ∧ 0 ≤ m ∧ m < 2147483647
theorem RowAt.in {K : PySem.W.Frag} {H : Hp} {r a : Addr} {ns : List Int} (R : RowAt K H r a ns) : RowIn H r a := R.row
theorem RowAt.of {K : PySem.W.Frag} {H H' : Hp} {r a : Addr} {ns : List Int} (R : RowAt K H r a ns) (e : Stp r H H') (w : RowIn H' r a) : RowAt K H' r a ns := by
  obtain ⟨⟨i, c, m, q, _⟩, s, l⟩ := R
  exact ⟨w, e.scr q s, l⟩
theorem RowIn.upd {H : Hp} {r a D : Addr} {o : HO} (w : RowIn H r a) (n : r ≠ D) : RowIn (upd H D o) r a := by
  obtain ⟨i, c, m, q, b⟩ := w
  exact ⟨i, c, m, by rw [upd_ne n]; exact q, b⟩
theorem RowAt.nw {K : PySem.W.Frag} {H : Hp} {r a D : Addr} {ns : List Int} (R : RowAt K H r a ns) (h : H D = none) : r ≠ D := by
  obtain ⟨⟨i, c, m, q, _⟩, s, l⟩ := R
  exact ne_of_none q h
theorem Stp.put {r D : Addr} {H H' : Hp} (e : Stp r H H') (h : H D = none) (o : HO) : Stp r H (upd H' D o) := fun b u q n => by
  rw [upd_ne (ne_of_none q h)]
  exact e b u q n
theorem Stp.one {r D : Addr} {H H' : Hp} {o : HO} (e : Stp r H H') (h : H D = some o) (n : r ≠ D) : H' D = some o := e _ _ h (Ne.symm n)
/-- signs of a text, a list of one-sign texts -/
def sg (l : List Nat) : List V := l.map fun c => V.str (T [c])
theorem sg_map (l : List Nat) : sg l = ((l.map fun c => [c]).map T).map V.str := by
  unfold sg
  rw [List.map_map, List.map_map]
  rfl
theorem sg_len (l : List Nat) : (sg l).length = l.length := by unfold sg; rw [List.length_map]
theorem sum_ones : ∀ l : List Nat, (((l.map fun c => [c]).map T).map (fun z : Str => z.length)).sum = l.length
  | [] => rfl
  | c :: r => by
    show 1 + (((r.map fun c => [c]).map T).map (fun z : Str => z.length)).sum = r.length + 1
    rw [sum_ones r]; omega
end Say
namespace Say
open PySem PySem.Spec PyProof.Rows L2
/-- a def that stands at the module's name and keeps its promise -/
def Df (P : Program) (w : World) (K : PySem.W.Frag) (mg : Str → Option Value) (base : Heap) (x : Str) (ps : List Str) (k : Nat) (sp : Sp) : Prop :=
  ∃ f fd, FnOk P w K mg base CX0 k f fd ps sp ∧ PySem.W.keepIn K (.ref f) = true ∧ Binds K fd ps [] ∧ mg x = some (.ref f)
theorem hash_app (L : List Nat) : (Str.ofString "#" ++ T L) = T (35 :: L) := by
  rw [show Str.ofString "#" = T [35] from hash_eq, T_app]
  rfl
theorem app_hash (L : List Nat) : (T L ++ Str.ofString "#") = T (L ++ [35]) := by
  rw [show Str.ofString "#" = T [35] from hash_eq, T_app]
theorem T_at {l : List Nat} {i c : Nat} (h : (T l).cps[i]? = some c) : l[i]? = some c := by
  have h : l.toArray[i]? = some c := h
  rw [List.getElem?_toArray] at h
  exact h
theorem T_at' {l : List Nat} {i c : Nat} (h : l[i]? = some c) : (T l).cps[i]? = some c := by
  show l.toArray[i]? = some c
  rw [List.getElem?_toArray]
  exact h
theorem T_size (l : List Nat) : (T l).cps.size = l.length := by
  show l.toArray.size = _
  simp
theorem take_next {l : List Nat} {i c : Nat} (h : l[i]? = some c) : l.take (i + 1) = l.take i ++ [c] := by
  rw [List.take_add_one, h]; rfl
theorem sg_app (a : List Nat) (c : Nat) : sg a ++ [V.str (T [c])] = sg (a ++ [c]) := by
  unfold sg
  rw [List.map_append]
  rfl
theorem len_hash : (Str.ofString "#").length = 1 := by decide +kernel
end Say
namespace Say
open PySem PySem.Spec PyProof.Rows L2
theorem at_list {α : Type} {l : List α} {z : Int} (h : z.toNat < l.length) (h0 : 0 ≤ z) : atI l z = some l[z.toNat] := by
  have q : l[z.toNat]? = some l[z.toNat] := List.getElem?_eq_getElem h
  have := atI_nat q
  rwa [show ((z.toNat : Nat) : Int) = z by omega] at this
end Say
namespace Say
open PySem PySem.Spec PyProof.Rows L2
/-! ### the data -/
structure Rule where
  ah : List Nat
  ow : List Nat
  be : List Nat
  so : List Nat
def Rule.vs (ρ : Rule) : List V := [.str (T ρ.ah), .str (T ρ.ow), .str (T ρ.be), .str (T ρ.so)]
/-- a rule of a book of the letters L -/
structure RuleOk (L : List Nat) (ρ : Rule) : Prop where
  ah : ρ.ah.Sublist (35 :: L)
  ow : ∀ c ∈ ρ.ow, c ∈ L
  o1 : 1 ≤ ρ.ow.length
  o2 : ρ.ow.length ≤ 2
  be : ρ.be.Sublist (35 :: L)
  so : ∀ c ∈ ρ.so, 65 ≤ c ∧ c ≤ 90
  s3 : ρ.so.length ≤ 3
/-- the tuple at R holds the rules -/
def RulesAt (H : Hp) (R : Addr) (rs : List Rule) : Prop := ∃ ts : List Addr, H R = some (.tup (ts.map V.ref)) ∧ Paired (fun t ρ => H t = some (.tup (Rule.vs ρ))) ts rs
theorem paired_mono {α β : Type} {F G : α → β → Prop} (h : ∀ x y, F x y → G x y) : ∀ {xs : List α} {ys : List β}, Paired F xs ys → Paired G xs ys
  | _, _, .nil => .nil
  | _, _, .cons a b => .cons (h _ _ a) (paired_mono h b)
theorem paired_app {α β : Type} {F : α → β → Prop} : ∀ {xs : List α} {ys : List β} {xs' : List α} {ys' : List β}, Paired F xs ys → Paired F xs' ys' → Paired F (xs ++ xs') (ys ++ ys')
  | _, _, _, _, .nil, h => h
  | _, _, _, _, .cons a b, h => .cons a (paired_app b h)
theorem paired_len {α β : Type} {F : α → β → Prop} : ∀ {xs : List α} {ys : List β}, Paired F xs ys → xs.length = ys.length
  | _, _, .nil => rfl
  | _, _, .cons a b => by simp [paired_len b]
theorem paired_at {α β : Type} {F : α → β → Prop} : ∀ {xs : List α} {ys : List β}, Paired F xs ys → ∀ {i : Nat} {x : α}, xs[i]? = some x → ∃ y, ys[i]? = some y ∧ F x y
  | _, _, .nil, i, x, h => by cases h
  | _, _, .cons r t, 0, x, h => by
    have e := Option.some.inj h
    subst e
    exact ⟨_, rfl, r⟩
  | _, _, .cons r t, i + 1, x, h => paired_at t h
theorem paired_at' {α β : Type} {F : α → β → Prop} : ∀ {xs : List α} {ys : List β}, Paired F xs ys → ∀ {i : Nat} {y : β}, ys[i]? = some y → ∃ x, xs[i]? = some x ∧ F x y
  | _, _, .nil, i, x, h => by cases h
  | _, _, .cons r t, 0, x, h => by
    have e := Option.some.inj h
    subst e
    exact ⟨_, rfl, r⟩
  | _, _, .cons r t, i + 1, x, h => paired_at' t h
theorem RulesAt.kt {H H' : Hp} {R : Addr} {rs : List Rule} (h : RulesAt H R rs) (e : KT H H') : RulesAt H' R rs := by
  obtain ⟨ts, h1, h2⟩ := h
  exact ⟨ts, e.1 _ _ h1, paired_mono (fun t ρ q => e.1 _ _ q) h2⟩
theorem Stp.kt {r a : Addr} {H H' : Hp} (e : Stp r H H') (w : RowIn H r a) : KT H H' := KT.by fun t u h hu => by
  obtain ⟨i, c, m, q, _⟩ := w
  exact e t _ h (ne_of h q (by rcases hu with ⟨_, rfl⟩ | ⟨_, _, rfl⟩ <;> (intro z; cases z)))
theorem kt_new {H : Hp} {D : Addr} {o : HO} (h : H D = none) : KT H (upd H D o) := KT.of (same_new h o)
theorem kt_upd {H : Hp} {D : Addr} {l : List V} {o : HO} (h : H D = some (.lst l)) : KT H (upd H D o) := KT.by fun t u q hu => by
  rw [upd_ne (ne_of q h (by rcases hu with ⟨_, rfl⟩ | ⟨_, _, rfl⟩ <;> (intro z; cases z)))]
  exact q
end Say
namespace Say
open PySem PySem.Spec PyProof.Rows L2
/-- the built-in names that the text leaves alone -/
structure Bn (mg : Str → Option Value) : Prop where
  len : mg "len" = none
  rng : mg "range" = none
  tup : mg "tuple" = none
  lst : mg "list" = none
  isi : mg "isinstance" = none
  str : mg "str" = none
  all : mg "all" = none
  enu : mg "enumerate" = none
  srt : mg "sorted" = none
  bool : mg "bool" = none
def isText (l S : List Nat) (lo hi : Nat) : Bool := decide (lo ≤ l.length) && (decide (l.length ≤ hi) && l.all fun c => decide (c ∈ S))
theorem isText_of {l S : List Nat} {lo hi : Nat} (h1 : lo ≤ l.length) (h2 : l.length ≤ hi) (h3 : ∀ c ∈ l, c ∈ S) : isText l S lo hi = true := by
  unfold isText
  rw [decide_eq_true h1, decide_eq_true h2]
  simp only [Bool.true_and, List.all_eq_true, decide_eq_true_eq]
  exact h3
/-- each sign is more than the one ahead -/
def rises : List Nat → Bool
  | a :: b :: r => decide (a < b) && rises (b :: r)
  | _ => true
end Say
namespace Say
open PySem PySem.Spec PyProof.Rows L2
theorem atI_of {α : Type} {xs : List α} {z : Int} {j : Nat} {v : α} (h : xs[j]? = some v) (e : z = (j : Int)) : atI xs z = some v := by
  rw [e]
  exact atI_nat h
end Say
namespace Say
open PySem PySem.Spec PyProof.Rows L2
section
variable {P : Program} {w : World} {K : PySem.W.Frag} {mg : Str → Option Value} {base : Heap}
abbrev sIsText : Stmt := topS 22
theorem scIsText : FnScope ["text", "signs", "least", "most", "sign"] ["text", "signs", "least", "most"] (defScope sIsText) := ⟨rfl, rfl, rfl, by decide +kernel, rfl, by decide +kernel, by decide +kernel⟩
def spIsText : Sp := fun vs H Q _ => ∃ (l S : List Nat) (lo hi : Nat), vs = [.str (T l), .str (T S), .int lo, .int hi] ∧ l.length ≤ 100 ∧
  ∀ (H' : Hp), Same H H' → Q (.bl (isText l S lo hi)) H'
theorem ok_isText {f : Addr} {fd : FuncData} (F : Fun K "is_text" "is_text" sIsText f fd) (B : Bn mg) :
    FnOk P w K mg base CX0 1 f fd ["text", "signs", "least", "most"] spIsText := by
  refine F.ok scIsText (fun vs H Q E h => ?_) (fun cdv A outer s H vs Q E hr h => ?_)
  · obtain ⟨l, S, lo, hi, rfl, _⟩ := h
    rfl
  · obtain ⟨l, S, lo, hi, rfl, hz, q⟩ := h
    refine ⟨_, pss_cons (ps_if (PW.pt (pw_or (pt_not (pt_val (pe_callB call_isi (by rfl) B.isi (by decide +kernel) (pa_cons (pv 0) (pa_cons (pe_bltn (v := .ty "str") rfl B.str (by decide +kernel) rfl) pa_nil)))))
          (pw_or1 (pt_not (pt_chain op_le op_le (pv 2) (pe_callB call_len_str (by rfl) B.len PySem.boot_len (pa_cons (pv 0) pa_nil)) (pv 3)))))) (pss_one (ps_ret pe_bl)) pss_nil)
      (pss_one (ps_ret (pe_callB (cr_all rfl) (by rfl) B.all (by decide +kernel) (pa_cons (pe_lc (own := [("sign", 4)]) (g := gName 4) rfl scIsText.nd (pi_str (pv 0))
        (blkOk_by (N := ["text", "signs", "least", "most", "sign"]) (sc := defScope sIsText) (by decide +kernel)) (fun _ _ _ _ _ => pg_name (i := 4) scIsText.nd rfl (.inl rfl))
        (fun _ _ _ _ _ => pts_nil) (fun _ _ _ _ _ => pe_cmpR op_in_sign (pv 4) (pv 1) rfl)) pa_nil)))), ?_⟩
    refine ⟨_, rfl, _, _, .type "str", _, true, rfl, ClsV.ty _, .base (.str _), kit_ty (by decide +kernel), true, rfl, ?_⟩
    refine iteF ?_
    have hlen : (T l).length ≤ sizeLine := by rw [T_len]; exact small (by omega)
    refine ⟨_, rfl, _, rfl, _, rfl, hlen, _, _, rfl, rfl, _, rfl, ?_⟩
    have eT : (lo : Int) ≤ ((T l).length : Int) ↔ lo ≤ l.length := by rw [T_len]; omega
    have eU : ((T l).length : Int) ≤ (hi : Int) ↔ l.length ≤ hi := by rw [T_len]; omega
    refine ite2 (fun c1 => ?_) (fun c1 => ?_)
    · refine ⟨_, rfl, _, _, rfl, rfl, _, rfl, ?_⟩
      have c1' := eT.mp (of_decide_eq_true c1)
      by_cases c2 : ((T l).length : Int) ≤ (hi : Int)
      · rw [decide_eq_true c2]
        have c2' := eU.mp c2
        refine iteF ?_
        refine ⟨_, rfl, T l, rfl, fun D hD => ?_⟩
        refine lc_it (walk_str) (fun i H2 => H2 D = some (.lst (((l.take i).map fun c => decide (c ∈ S)).map V.bl)) ∧ Same H H2) ?_ (fun _ _ _ _ => trivial) ?_ ?_
        · exact ⟨upd_same, same_new hD _⟩
        · rintro i x H2 H2' hi' ⟨e1, e2⟩ ⟨rfl, c, hc, rfl⟩
          have hc := T_at hc
          refine ⟨rfl, ?_⟩
          refine ⟨_, rfl, _, rfl, c, T S, rfl, rfl, _, e1, ?_, ?_, ?_⟩
          · rw [List.length_map, List.length_map, List.length_take]
            exact small1000 (by omega)
          · rw [upd_same, take_next hc, List.map_append, List.map_append]
            rfl
          · exact fun b u q => by
              rw [upd_ne (ne_of_none q hD)]
              exact e2 b u q
        · rintro H2 ⟨e1, e2⟩
          rw [T_size, List.take_length] at e1
          refine ⟨D, _, rfl, .inl (.inl e1), ?_⟩
          have := q H2 e2
          unfold isText at this
          rw [decide_eq_true c1', decide_eq_true c2', Bool.true_and, Bool.true_and] at this
          rw [List.all_map]
          exact this
      · rw [decide_eq_false c2]
        refine iteT ?_
        have := q H (Same.refl H)
        unfold isText at this
        rw [decide_eq_false (fun z => c2 (eU.mpr z)), Bool.false_and, Bool.and_false] at this
        exact this
    · refine ⟨_, rfl, iteT ?_⟩
      have := q H (Same.refl H)
      unfold isText at this
      rw [decide_eq_false (fun z => c1 (decide_eq_true (eT.mpr z))), Bool.false_and] at this
      exact this
end
end Say
namespace Say
open PySem PySem.Spec PyProof.Rows L2
section
variable {P : Program} {w : World} {K : PySem.W.Frag} {mg : Str → Option Value} {base : Heap}
abbrev sRise : Stmt := topS 23
theorem scRise : FnScope ["text", "at"] ["text"] (defScope sRise) := ⟨rfl, rfl, rfl, by decide +kernel, rfl, by decide +kernel, by decide +kernel⟩
/-- the j-th sign against the next, for j below n -/
def risesTo (l : List Nat) (n : Nat) : List Bool := (List.range n).map fun j => decide ((l.getD j 0) < (l.getD (j + 1) 0))
theorem rises_range : ∀ l : List Nat, (risesTo l (l.length - 1)).all id = rises l
  | [] => rfl
  | [_] => rfl
  | a :: b :: r => by
    have ih := rises_range (b :: r)
    show (risesTo (a :: b :: r) (r.length + 1)).all id = (decide (a < b) && rises (b :: r))
    rw [← ih]
    unfold risesTo
    rw [List.range_succ_eq_map, List.map_cons, List.map_map, List.all_cons]
    rfl
theorem risesTo_next (l : List Nat) (n : Nat) : risesTo l (n + 1) = risesTo l n ++ [decide ((l.getD n 0) < (l.getD (n + 1) 0))] := by
  unfold risesTo
  rw [List.range_succ, List.map_append]
  rfl
theorem risesTo_len (l : List Nat) (n : Nat) : (risesTo l n).length = n := by
  unfold risesTo
  rw [List.length_map, List.length_range]
def spRise : Sp := fun vs H Q _ => ∃ (l : List Nat), vs = [.str (T l)] ∧ l.length ≤ 100 ∧ ∀ (H' : Hp), Same H H' → Q (.bl (rises l)) H'
theorem lt_one (a b : Nat) : decide (([a] : List Nat) < [b]) = decide (a < b) := by
  by_cases h : a < b
  · rw [decide_eq_true h, decide_eq_true]
    exact List.Lex.rel h
  · rw [decide_eq_false h, decide_eq_false]
    intro z
    cases z with
    | rel q => exact h q
    | cons q => cases q
theorem ok_rise {f : Addr} {fd : FuncData} (F : Fun K "is_rising" "is_rising" sRise f fd) (B : Bn mg) : FnOk P w K mg base CX0 1 f fd ["text"] spRise := by
  refine F.ok scRise (fun vs H Q E h => ?_) (fun cdv A outer s H vs Q E hr h => ?_)
  · obtain ⟨l, rfl, _⟩ := h
    rfl
  · obtain ⟨l, rfl, hz, q⟩ := h
    have hlen : (T l).length ≤ sizeLine := by rw [T_len]; exact small (by omega)
    refine ⟨_, pss_one (ps_ret (pe_callB (cr_all rfl) (by rfl) B.all (by decide +kernel) (pa_cons (pe_lc (own := [("at", 1)]) (g := gName 1) rfl scRise.nd
        (pi_range2 rfl B.rng (pa_cons pe_int (pa_cons (pe_callB call_len_str (by rfl) B.len PySem.boot_len (pa_cons (pv 0) pa_nil)) pa_nil)))
        (blkOk_by (N := ["text", "at"]) (sc := defScope sRise) (by decide +kernel)) (fun _ _ _ _ _ => pg_name (i := 1) scRise.nd rfl (.inl rfl))
        (fun _ _ _ _ _ => pts_nil) (fun _ _ _ _ _ => pe_cmpR op_lt_str (pe_ix ix_str (pv 0) (pe_op op_sub (pv 1) pe_int) (fun _ _ => rfl)) (pe_ix ix_str (pv 0) (pv 1) (fun _ _ => rfl)) (nomark _))) pa_nil))), ?_⟩
    refine ⟨_, rfl, _, rfl, hlen, 1, _, rfl, ⟨by decide, by decide, by omega, by rw [T_len]; omega⟩, fun D hD => ?_⟩
    refine lc_it (walk_range) (fun i H2 => H2 D = some (.lst ((risesTo l i).map V.bl)) ∧ Same H H2) ?_ (fun _ _ _ _ => trivial) ?_ ?_
    · exact ⟨upd_same, same_new hD _⟩
    · rintro i x H2 H2' hi' ⟨e1, e2⟩ ⟨rfl, rfl⟩
      rw [T_len] at hi'
      have g1 : i < l.length := by omega
      have g2 : i + 1 < l.length := by omega
      refine ⟨rfl, ?_⟩
      have q1 : (T l).cps.toList[i]? = some (l.getD i 0) := by rw [T_cps, List.getD_eq_getElem?_getD, List.getElem?_eq_getElem g1]; rfl
      have q2 : (T l).cps.toList[i + 1]? = some (l.getD (i + 1) 0) := by rw [T_cps, List.getD_eq_getElem?_getD, List.getElem?_eq_getElem g2]; rfl
      refine ⟨_, rfl, _, rfl, _, _, rfl, rfl, T l, 1 + (i : Int) - 1, l.getD i 0, rfl, rfl, hlen, atI_of q1 (by omega), ?_⟩
      refine ⟨_, rfl, _, rfl, T l, 1 + (i : Int), l.getD (i + 1) 0, rfl, rfl, hlen, atI_of q2 (by omega), ?_⟩
      refine ⟨_, _, rfl, rfl, _, e1, ?_, ?_, ?_⟩
      · rw [List.length_map, risesTo_len]
        exact small1000 (by omega)
      · rw [upd_same, risesTo_next, List.map_append]
        show some (HO.lst (_ ++ [V.bl (decide (([l.getD i 0] : List Nat) < [l.getD (i + 1) 0]))])) = _
        rw [lt_one]
        rfl
      · exact fun b u q => by
          rw [upd_ne (ne_of_none q hD)]
          exact e2 b u q
    · rintro H2 ⟨e1, e2⟩
      rw [show (((T l).length : Int) - 1).toNat = l.length - 1 by rw [T_len]; omega] at e1
      refine ⟨D, _, rfl, .inl (.inl e1), ?_⟩
      rw [rises_range]
      exact q H2 e2
end
end Say
namespace Say
open PySem PySem.Spec PyProof.Rows L2
/-- the letters of a book -/
structure LetOk (L : List Nat) : Prop where
  l2 : 2 ≤ L.length
  l4 : L.length ≤ 4
  up : rises L = true
  az : ∀ c ∈ L, 97 ≤ c ∧ c ≤ 122
theorem rises_iff : ∀ l : List Nat, rises l = true ↔ l.Pairwise (· < ·)
  | [] => by simp [rises]
  | [a] => by simp [rises]
  | a :: b :: r => by
    have ih := rises_iff (b :: r)
    show (decide (a < b) && rises (b :: r)) = true ↔ _
    rw [Bool.and_eq_true, ih, List.pairwise_cons (a := a)]
    constructor
    · rintro ⟨h1, h2⟩
      have h1 := of_decide_eq_true h1
      refine ⟨fun x hx => ?_, h2⟩
      rcases List.mem_cons.mp hx with rfl | hx
      · exact h1
      · exact Nat.lt_trans h1 ((List.pairwise_cons.mp h2).1 x hx)
    · rintro ⟨h1, h2⟩
      exact ⟨decide_eq_true (h1 b (List.mem_cons_self ..)), h2⟩
theorem LetOk.hash {L : List Nat} (h : LetOk L) : rises (35 :: L) = true := (rises_iff _).mpr (List.pairwise_cons.mpr ⟨fun c hc => by have := (h.az c hc).1; omega, (rises_iff _).mp h.up⟩)
theorem side_ok {L z : List Nat} (h : LetOk L) (s : z.Sublist (35 :: L)) : (isText z (35 :: L) 0 (L.length + 1) && rises z) = true := by
  rw [Bool.and_eq_true]
  exact ⟨isText_of (Nat.zero_le _) (by have := s.length_le; simpa using this) fun c hc => s.subset hc, (rises_iff _).mpr (((rises_iff _).mp h.hash).sublist s)⟩
/-- a constant that holds a number -/
abbrev KI (mg : Str → Option Value) (x : Str) (n : Int) : Prop := ∃ t, mg x = some (.int n t)
/-- what the module's constants hold -/
structure Cn (mg : Str → Option Value) : Prop where
  small : ∃ t, mg "SMALL" = some (.str "abcdefghijklmnopqrstuvwxyz" t)
  caps : ∃ t, mg "CAPITALS" = some (.str "ABCDEFGHIJKLMNOPQRSTUVWXYZ" t)
  edge : ∃ t, mg "EDGE" = some (.str "#" t)
  mrul : ∃ t, mg "MOST_RULES" = some (.int 12 t)
  lexc : ∃ t, mg "LONGEST_EXCEPTION" = some (.int 8 t)
  lrs : ∃ t, mg "LONGEST_RULE_SOUNDS" = some (.int 3 t)
  lso : ∃ t, mg "LONGEST_SOUNDS" = some (.int 36 t)
def smallL : List Nat := (List.range 26).map (· + 97)
def capsL : List Nat := (List.range 26).map (· + 65)
theorem small_eq : Str.ofString "abcdefghijklmnopqrstuvwxyz" = T smallL := by decide +kernel
theorem caps_eq : Str.ofString "ABCDEFGHIJKLMNOPQRSTUVWXYZ" = T capsL := by decide +kernel
theorem mem_small {c : Nat} (h : 97 ≤ c ∧ c ≤ 122) : c ∈ smallL := List.mem_map.mpr ⟨c - 97, List.mem_range.mpr (by omega), by omega⟩
theorem mem_caps {c : Nat} (h : 65 ≤ c ∧ c ≤ 90) : c ∈ capsL := List.mem_map.mpr ⟨c - 65, List.mem_range.mpr (by omega), by omega⟩
section
variable {P : Program} {w : World} {K : PySem.W.Frag} {mg : Str → Option Value} {base : Heap}
abbrev psIsText : List Str := ["text", "signs", "least", "most"]
abbrev sBeside : Stmt := topS 18
theorem scBeside : FnScope ["letters", "signs"] ["letters", "signs"] (defScope sBeside) := ⟨rfl, rfl, rfl, by decide +kernel, rfl, by decide +kernel, by decide +kernel⟩
def spBeside : Sp := fun vs H Q _ => ∃ (L z : List Nat), vs = [.str (T L), .str (T z)] ∧ L.length ≤ 50 ∧ z.length ≤ 100 ∧ ∀ (H' : Hp), Same H H' → Q (.bl (isText z (35 :: L) 0 (L.length + 1) && rises z)) H'
theorem ok_beside {f : Addr} {fd : FuncData} (F : Fun K "is_beside" "is_beside" sBeside f fd) (B : Bn mg) (C : Cn mg) (DT : Df P w K mg base "is_text" psIsText 1 spIsText) (DR : Df P w K mg base "is_rising" ["text"] 1 spRise) :
    FnOk P w K mg base CX0 2 f fd ["letters", "signs"] spBeside := by
  obtain ⟨fT, fdT, GT, kT, bT, mT⟩ := DT
  obtain ⟨fR, fdR, GR, kR, bR, mR⟩ := DR
  obtain ⟨tE, mE⟩ := C.edge
  refine F.ok scBeside (fun vs H Q E h => ?_) (fun cdv A outer s H vs Q E hr h => ?_)
  · obtain ⟨L, z, rfl, _⟩ := h
    rfl
  · obtain ⟨L, z, rfl, hL, hz, q⟩ := h
    refine ⟨_, pss_one (ps_ret (pe_and (pe_call GT hr (by rfl) mT kT bT .nil pass0 (pa_cons (pv 1) (pa_cons (pe_op op_add_str (pe_glob (v := .str "#") rfl mE ⟨_, rfl⟩) (pv 0)) (pa_cons pe_int (pa_cons (pe_op op_add (pe_callB call_len_str (by rfl) B.len PySem.boot_len (pa_cons (pv 0) pa_nil)) pe_int) pa_nil)))))
        (pe_one (pe_call GR hr (by rfl) mR kR bR .nil pass0 (pa_cons (pv 1) pa_nil))))), ?_⟩
    have hl : (T L).length ≤ sizeLine := by rw [T_len]; exact small (by omega)
    refine ⟨_, rfl, _, rfl, _, _, rfl, rfl, (by rw [len_hash, T_len]; exact small (by omega)), _, rfl, _, rfl, hl, _, _, rfl, rfl, z, 35 :: L, 0, L.length + 1, ?_, hz, fun H1 s1 => ?_⟩
    · rw [hash_app, T_len]
      rfl
    refine ⟨_, rfl, ite2 (fun c => ?_) (fun c => ?_)⟩
    · refine ⟨_, rfl, z, rfl, hz, fun H2 s2 => ?_⟩
      have := q H2 (s1.trans s2)
      rw [c, Bool.true_and] at this
      exact this
    · have := q H1 s1
      rw [Bool.eq_false_iff.mpr c, Bool.false_and] at this
      exact this
abbrev sIsRule : Stmt := topS 17
theorem scIsRule : FnScope ["letters", "rule", "ahead", "own", "behind", "sounds"] ["letters", "rule"] (defScope sIsRule) := ⟨rfl, rfl, rfl, by decide +kernel, rfl, by decide +kernel, by decide +kernel⟩
def spIsRule : Sp := fun vs H Q _ => ∃ (L : List Nat) (t : Addr) (ρ : Rule), vs = [.str (T L), .ref t] ∧ H t = some (.tup ρ.vs) ∧ LetOk L ∧ RuleOk L ρ ∧ ∀ (H' : Hp), Same H H' → Q (.bl true) H'
theorem ok_isRule {f : Addr} {fd : FuncData} (F : Fun K "is_rule" "is_rule" sIsRule f fd) (B : Bn mg) (C : Cn mg) (DT : Df P w K mg base "is_text" psIsText 1 spIsText) (DB : Df P w K mg base "is_beside" ["letters", "signs"] 2 spBeside) :
    FnOk P w K mg base CX0 3 f fd ["letters", "rule"] spIsRule := by
  obtain ⟨fT, fdT, GT, kT, bT, mT⟩ := DT
  obtain ⟨fB, fdB, GB, kB, bB, mB⟩ := DB
  obtain ⟨tC, mC⟩ := C.caps
  obtain ⟨tS, mS⟩ := C.lrs
  refine F.ok scIsRule (fun vs H Q E h => ?_) (fun cdv A outer s H vs Q E hr h => ?_)
  · obtain ⟨L, t, ρ, rfl, _⟩ := h
    rfl
  · obtain ⟨L, t, ρ, rfl, ht, hL, hρ, q⟩ := h
    have hr1 : Room 1 _ := hr.mono (by decide)
    refine ⟨_, pss_cons (ps_if (PW.pt (pw_or (pt_not (pt_val (pe_callB call_isi (by rfl) B.isi (by decide +kernel) (pa_cons (pv 1) (pa_cons (pe_bltn (v := .ty "tuple") rfl B.tup (by decide +kernel) rfl) pa_nil)))))
          (pw_or1 (pt_cmpR op_ne (pe_callB call_len (by rfl) B.len PySem.boot_len (pa_cons (pv 1) pa_nil)) pe_int (nomark _))))) (pss_one (ps_ret pe_bl)) pss_nil)
      (pss_cons (ps_asg (pv 1) (pg_tup (by rfl) (pgs_cons (pg_name (i := 2) scIsRule.nd rfl (.inl rfl)) (pgs_cons (pg_name (i := 3) scIsRule.nd rfl (.inl rfl)) (pgs_cons (pg_name (i := 4) scIsRule.nd rfl (.inl rfl)) (pgs_cons (pg_name (i := 5) scIsRule.nd rfl (.inl rfl)) pgs_nil))))))
      (pss_one (ps_ret (pe_and (pe_call GB hr (by rfl) mB kB bB .nil pass0 (pa_cons (pv 0) (pa_cons (pv 2) pa_nil)))
        (pe_and (pe_call GT hr1 (by rfl) mT kT bT .nil pass0 (pa_cons (pv 3) (pa_cons (pv 0) (pa_cons pe_int (pa_cons pe_int pa_nil)))))
        (pe_and (pe_call GB hr (by rfl) mB kB bB .nil pass0 (pa_cons (pv 0) (pa_cons (pv 4) pa_nil)))
        (pe_one (pe_call GT hr1 (by rfl) mT kT bT .nil pass0 (pa_cons (pv 5) (pa_cons (pe_glob (v := .str "ABCDEFGHIJKLMNOPQRSTUVWXYZ") rfl mC ⟨_, rfl⟩) (pa_cons pe_int (pa_cons (pe_glob (v := .int 3) rfl mS ⟨_, rfl⟩) pa_nil)))))))))))), ?_⟩
    have l5 := hρ.ah.length_le
    have l6 := hρ.be.length_le
    rw [List.length_cons] at l5 l6
    have l4 := hL.l4
    refine ⟨_, rfl, _, _, .type "tuple", _, true, rfl, ClsV.ty _, .base (.tup ht), kit_ty (by decide +kernel), true, rfl, iteF ?_⟩
    refine ⟨_, rfl, _, 4, rfl, .inr ⟨_, .inl (.inl ht), rfl⟩, rfl, _, rfl, iteF ?_⟩
    refine ⟨_, rfl, t, _, rfl, .inl (.inl ht), rfl, _, _, rfl, _, _, rfl, _, _, rfl, _, _, rfl, rfl, ?_⟩
    refine ⟨_, rfl, _, rfl, L, ρ.ah, rfl, by omega, by omega, fun H1 s1 => ?_⟩
    refine ⟨_, rfl, ?_⟩
    rw [side_ok hL hρ.ah]
    refine iteT ?_
    refine ⟨_, rfl, _, rfl, ρ.ow, L, 1, 2, rfl, (by have := hρ.o2; omega), fun H2 s2 => ?_⟩
    refine ⟨_, rfl, ?_⟩
    rw [isText_of hρ.o1 hρ.o2 hρ.ow]
    refine iteT ?_
    refine ⟨_, rfl, _, rfl, L, ρ.be, rfl, by omega, by omega, fun H3 s3 => ?_⟩
    refine ⟨_, rfl, ?_⟩
    rw [side_ok hL hρ.be]
    refine iteT ?_
    refine ⟨_, rfl, ρ.so, capsL, 0, 3, (by rw [caps_eq]; rfl), (by have := hρ.s3; omega), fun H4 s4 => ?_⟩
    rw [isText_of (Nat.zero_le _) hρ.s3 fun c hc => mem_caps (hρ.so c hc)]
    exact q H4 (s1.trans (s2.trans (s3.trans s4)))
end
end Say
namespace PySem
open Sem (wp)
open AutoSeq1 (wpAny_loadPart')
/-- enumerate(tuple): what the making of it meets -/
theorem say_meets_enumT (l : Addr) (o0 : Obj) (items : Array Value) (n : Nat) (clC : o0.cls = .type "tuple") (dtD : o0.data = .seq items n) :
    Meets (Builtin.«enumerate.__new__» ⟨[.type "enumerate", .ref l], []⟩) (fun _ R s => s.heap.get? l = some o0 ∧
      R (.ok (.ret (.ref (s.heap.push { cls := .type "tuple_iterator", data := .fields #[.ref l, .int 0 0] }).objs.size)))
        { s with heap := (s.heap.push { cls := .type "tuple_iterator", data := .fields #[.ref l, .int 0 0] }).push { cls := .type "enumerate", data := .fields #[.none, .bool false, .ref s.heap.objs.size, rawInt 0, .none, .none] } }) :=
  .of_wp fun prog w A R s h => by
    obtain ⟨txP, g, d, tkn, os⟩ := s; obtain ⟨lnT, h⟩ := h
    obtain ⟨oc, od, dt, osl⟩ := o0
    replace clC : oc = .type "tuple" := clC
    replace dtD : dt = .seq items n := dtD
    subst clC dtD
    have hsub := sub_enumerate
    have hL : Heap.IsTuple (Shared.heap ⟨txP, g, d, tkn, os⟩) l items := ⟨_, lnT, rfl, n, rfl⟩
    wp_walk using wpAny_loadPart' lnT
    refine wpAny_stack_any fun sta => wpAny_pure ?_
    split
    · rename_i c _ _ _ _ _
      cases (c == Value.type "enumerate")
      · wp_walk using wpAny_loadPart' lnT, wpAny_pyIter_tuple hL
        exact ⟨_, rfl, h⟩
      · wp_walk using wpAny_loadPart' lnT, wpAny_pyIter_tuple hL
        exact ⟨_, rfl, h⟩
    · wp_walk using wpAny_loadPart' lnT, wpAny_pyIter_tuple hL
      exact ⟨_, rfl, h⟩
section
variable {prog : Program} {w : World} {A : Around} {E : Value → Shared → Prop} {s : Shared}
theorem say_call_enumT {l : Addr} {items : Array Value} {Q : Value → Shared → Prop} (hL : s.heap.IsTuple l items)
    (h : ∀ h', IsEnum h' (s.heap.objs.size + 1) s.heap.objs.size 0 .none → h'.IsTupleIter s.heap.objs.size l 0 → h'.objs.size = s.heap.objs.size + 2 →
      (∀ b o, s.heap.get? b = some o → h'.get? b = some o) → Q (.ref (s.heap.objs.size + 1)) { s with heap := h' }) :
    wpAny (model prog w) A (call (.type "enumerate") [.ref l]) Q E s := by
  obtain ⟨o0, lnT, clC, n, dtD⟩ := hL
  refine callType_new F.called_enumerate (by decide) (F.typeCall_enumerate_1 _) (F.newCall_enumerate_1 _) (fun obj => F.args_object_init_2 obj _) F.entry_enumerate_new
    (say_meets_enumT l o0 items n clC dtD) ⟨lnT, ?_⟩
  have szT : (s.heap.push { cls := .type "tuple_iterator", data := .fields #[.ref l, .int 0 0] }).objs.size = s.heap.objs.size + 1 := Heap.size_push ..
  show _ ∧ _
  rw [szT]
  have hEn : IsEnum ((s.heap.push { cls := .type "tuple_iterator", data := .fields #[.ref l, .int 0 0] }).push
      { cls := .type "enumerate", data := .fields #[.none, .bool false, .ref s.heap.objs.size, rawInt 0, .none, .none] }) (s.heap.objs.size + 1) s.heap.objs.size 0 .none := by
    have := Heap.get?_push_size (s.heap.push { cls := .type "tuple_iterator", data := .fields #[.ref l, .int 0 0] })
      (o := { cls := .type "enumerate", data := .fields #[.none, .bool false, .ref s.heap.objs.size, rawInt 0, .none, .none] }) rfl
    rw [szT] at this; exact this
  refine ⟨⟨_, hEn, rfl⟩, h _ hEn ⟨_, Heap.get?_push_of_some _ (Heap.get?_push_size _ rfl), rfl, rfl⟩ (by rw [Heap.size_push, szT]) fun b o x => Heap.get?_push_of_some _ (Heap.get?_push_of_some _ x)⟩
theorem say_enumT_end {e it l : Addr} {i : Nat} {j : Int} {items : Array Value} {was : Value} {Q : Option Value → Shared → Prop} (noH : A.handled = none)
    (hEn : IsEnum s.heap e it j was) (hTi : s.heap.IsTupleIter it l i) (lnT : s.heap.IsTuple l items) (atI0 : items[i]? = none)
    (hQ : ∀ h', Heap.ExtBut it s.heap h' → Q none { s with heap := h' }) : wpAny (model prog w) A (pyNext (.ref e)) Q E s := by
  have isTup : s.TypeIs (.ref e) "enumerate" := ⟨_, hEn, rfl⟩
  unfold pyNext
  refine wpAny_bind (wpAny_attempt (wpAny_callSpecial?_slot (name := Str.ofString "__next__") isTup F.slot_enumerate_next
    (wpAny_call_entry F.slot_enumerate_next isTup F.entry_enumerate_next ?_ (F.args_enumerate_next_1 _))))
  show wpAny _ _ (field (.ref e) 2 >>= _) _ _ _
  refine wpAny_bind (wpAny_field hEn rfl (x := .ref it) rfl ?_)
  refine wpAny_bind (wpAny_nextOf_tuple_end noH hTi lnT atI0 fun h' x he' hx' => ?_)
  obtain ⟨o, obO, clC⟩ := hx'
  refine wpAny_bind (wpAny_isInstance (T := "StopIteration") (b := true) ⟨o, obO, clC⟩ isSubtype_stop ?_)
  exact wpAny_pure (hQ _ he')
end
end PySem
namespace Say
open PySem PySem.Spec PyProof.Rows L2
/-- the tuple at a adrs it stands at each turn, each item in a new pair -/
def IteT (K : PySem.W.Frag) (a : Addr) : It :=
  ⟨fun i H => ∃ (xs : List V) (x : V), SqT K H a xs ∧ xs[i]? = some x, fun i H v H' => ∃ T x, v = .ref T ∧ H T = none ∧ H' = upd H T (.tup [.int (i : Nat), x]) ∧ ∀ xs, SqT K H a xs → xs[i]? = some x, fun i H => ∃ xs : List V, SqT K H a xs ∧ xs.length ≤ i⟩
theorem enum_ne {h : Heap} {e it a : Addr} {i : Int} {was : Value} {items : Array Value} (hEn : IsEnum h e it i was) (isTup : h.IsTuple a items) : e ≠ a := fun z => by
  subst z
  obtain ⟨o, obO, clC, _⟩ := isTup
  have hEn : h.get? e = some _ := hEn
  rw [hEn] at obO
  cases obO
  exact absurd (Value.type.inj clC) (by decide)
theorem tit_ne {h : Heap} {it a : Addr} {i : Nat} {items : Array Value} (hEn : h.IsTupleIter it a i) (isTup : h.IsTuple a items) : a ≠ it := fun z => by
  subst z
  obtain ⟨o, obO, clC, _⟩ := isTup
  obtain ⟨o', ho', hc', _⟩ := hEn
  rw [obO] at ho'
  cases ho'
  rw [clC] at hc'
  exact absurd (Value.type.inj hc') (by decide)
theorem turn_enumT {P : Program} {w : World} {K : PySem.W.Frag} {els : List Expr} {k9 : Nat} {tps0 : Pos} (a e it : Addr) :
    Turn P w K (.Tuple els k9 tps0) (IteT K a) [e, it] e (fun i h => (∃ was, IsEnum h e it ((i : Nat) : Int) was) ∧ h.IsTupleIter it a i ∧ e ≠ it) where
  mem := by simp
  obj := fun i h sta b hb => by
    obtain ⟨⟨was, hEn⟩, ⟨o, obO, clC, dtD⟩, _⟩ := sta
    have e' : b = e ∨ b = it := by simpa using hb
    rcases e' with z | z
    · rw [z]; exact ⟨_, hEn, fun v q => nomatch q⟩
    · rw [z]; exact ⟨o, obO, fun v q => by rw [dtD] at q; cases q⟩
  keep := fun i h h' sta k => let ⟨⟨was, hEn⟩, hi, hAp⟩ := sta; ⟨⟨was, k e (by simp) _ hEn⟩, hi.at fun o q => k it (by simp) o q, hAp⟩
  item := by
    intro X hP hw hK clC i pn s σ H E I fresh0 sta gW
    subst hP hw hK
    obtain ⟨⟨was, hEn⟩, hTi, hAp⟩ := sta
    obtain ⟨xs, x, isT, atI0⟩ := gW
    obtain ⟨its, rel, p, szT⟩ := I.tuple isT
    have p : s.heap.IsTuple a its.toArray := p
    obtain ⟨u, getU, relU⟩ := rel.get atI0
    have ltE : e < s.heap.objs.size := Heap.lt_size hEn
    have ltI : it < s.heap.objs.size := by obtain ⟨_, q, _⟩ := hTi; exact Heap.lt_size q
    have ltN : i < its.toArray.size := by
      have := (List.getElem?_eq_some_iff.mp getU).1
      simpa using this
    refine wpAny_pyNext_enum_itemD (Draws.tuple (show X.A.in1.handled = none from I.ok.hd clC) it a (tit_ne hTi p) its.toArray) hEn ⟨hTi, p⟩ ltN hAp (by
      simp only [List.mem_cons, List.not_mem_nil, or_false, not_or]
      exact ⟨hAp, enum_ne hEn p⟩) fun u' h' tkn hu' obO hst' isTup szH kpT => ?_
    have eu : u' = u := by
      have h1 : its.toArray[i]? = some u' := hu'
      rw [List.getElem?_toArray, getU] at h1
      exact (Option.some.inj h1).symm
    subst eu
    obtain ⟨hit', p'⟩ := hst'
    refine ⟨_, rfl, wpAny_letOwnedTupleGo_enum (s := { s with heap := h', toks := tkn + 1 }) obO fun h'' he' butE => ?_⟩
    have hT2 : h''.get? s.heap.objs.size = some { cls := .type "tuple", data := .seq #[.int i tkn, u'] } := (butE.2 _ (Nat.ne_of_gt ltE)).trans isTup
    have new : ObjOk X.prog X.w (upd H s.heap.objs.size (.tup [.int (i : Nat), x])) h'' s.heap.objs.size (.tup [.int (i : Nat), x]) :=
      ⟨by show 2 ≤ sizeLine; decide, [.int i tkn, u'], .cons ⟨_, rfl⟩ (.cons relU .nil), ⟨_, hT2, rfl, _, rfl⟩⟩
    have I1 : Inv X pn σ (upd H s.heap.objs.size (.tup [.int (i : Nat), x])) { s with heap := h'', toks := tkn + 1 } :=
      I.turnedNew (ch := [e, it]) (fun b ob hb q => (butE.2 b (fun z => hb (by simp [z]))).trans (kpT b ob (fun z => hb (by simp [z])) (fun z => hb (by simp [z])) q)) fresh0 (Nat.le_refl _) new
    refine ⟨.ref s.heap.objs.size, _, I1, rfl, ⟨_, x, rfl, I.hok.fresh (Nat.le_refl _), rfl, fun ys hy => by rw [I.tuple_inj hy isT]; exact atI0⟩, ⟨⟨u', ?_⟩, hit'.at fun o q => (butE.2 it (Ne.symm hAp)).trans q, hAp⟩, fun b hb => ?_⟩
    · have q1 : ((i + 1 : Nat) : Int) = (i : Int) + 1 := by omega
      rw [q1]; exact he'
    · have hb' : b < s.heap.objs.size := by
        have e' : b = e ∨ b = it := by simpa using hb
        rcases e' with z | z
        · rw [z]; exact ltE
        · rw [z]; exact ltI
      rw [upd_ne (Nat.ne_of_lt hb')]
      exact (fresh0 b hb).1
  done := by
    intro X hP hw hK clC i pn s σ H E I fresh0 sta gW
    subst hP hw hK
    obtain ⟨⟨was, hEn⟩, hTi, hAp⟩ := sta
    obtain ⟨xs, isT, atI0⟩ := gW
    obtain ⟨its, rel, p, szT⟩ := I.tuple isT
    have p : s.heap.IsTuple a its.toArray := p
    obtain ⟨f0, f1, f2, f3, f4, f5⟩ := fresh0 it (by simp)
    have hl := rel.length
    exact say_enumT_end (I.ok.hd clC) hEn hTi p (by rw [List.getElem?_toArray]; exact List.getElem?_eq_none (by omega)) fun h' eb => ⟨rfl, I.turned (t' := s.toks) (fun b o hb q => eb b o hb q) f0 f1 f3 f4 f5⟩
  self := fun A i s Q E sta h => let ⟨⟨_, hEn⟩, _⟩ := sta; wpAny_pyIter_enum hEn h
def iEnumT (K : PySem.W.Frag) (ta : TA) : TI := fun σ H R => ta σ H fun vs H1 => ∃ a xs, vs = [.ref a] ∧ SqT K H1 a xs ∧ R (IteT K a) H1
theorem pi_enumT {X : Cx} {e : Expr} {ta : TA} {p pos tps0 : Pos} {els : List Expr} {k9 : Nat} (gW : Gl X "enumerate") (hm : X.mg "enumerate" = none) (atA : PA X [e] ta) (hs : starEach [e] X.env = [(false, eval e X.env)] := by rfl) :
    PI X (.Tuple els k9 tps0) (.Call (.Name "enumerate" p) [e] [] pos) (iEnumT X.K ta) := by
  refine ⟨fun pn s σ H R I h => ?_⟩
  refine Call_ (ld_blt I gW hm boot_enumerate (PyProof.Rows.callWith_type1 (thn (atA.run pos pn s σ H _ I h) fun args s1 ⟨vs, H1, I1, r1, q1⟩ => ?_) hs rfl))
  obtain ⟨a, xs, ex, isT, q⟩ := q1
  subst ex
  cases r1 with
  | cons r rst =>
    cases rst
    cases r
    obtain ⟨its, rel, p', szT⟩ := I1.tuple isT
    refine say_call_enumT (show s1.heap.IsTuple a its.toArray from p') fun h' hEn hTi szH kpT => wpAny_pyIter_enum hEn ?_
    have I2 : Inv X pn σ H1 { s1 with heap := h' } := I1.kept (t' := s1.toks) kpT
    refine ⟨s1.heap.objs.size + 1, [s1.heap.objs.size + 1, s1.heap.objs.size], _, _, H1, rfl, I2, turn_enumT a (s1.heap.objs.size + 1) s1.heap.objs.size, ⟨⟨.none, hEn⟩, hTi, Nat.succ_ne_self _⟩, fun b hb => ?_, q⟩
    have e' : b = s1.heap.objs.size + 1 ∨ b = s1.heap.objs.size := by simpa using hb
    have hle : s1.heap.objs.size ≤ b := by
      rcases e' with z | z
      · rw [z]; exact Nat.le_add_right _ _
      · rw [z]; exact Nat.le_refl _
    exact I1.fpOk hle (I1.hok.fresh hle)
theorem walk_enumT {K : PySem.W.Frag} {a : Addr} {xs : List V} : Walk (IteT K a) xs.length (fun H => SqT K H a xs) (YPair (fun i => some (.int (i : Nat))) (fun i => xs[i]?)) := by
  refine ⟨fun i _ hi q => ⟨xs, xs[i], q, by simp [hi]⟩, fun _ q => ⟨xs, q, Nat.le_refl _⟩, fun i H v H' _ q y => ?_⟩
  obtain ⟨T, x, h1, h2, h3, h4⟩ := y
  exact ⟨T, .int (i : Nat), x, h1, h2, h3, rfl, h4 xs q⟩
end Say
namespace Say
open PySem PySem.Spec PyProof.Rows L2
abbrev Exc := List Nat × List Nat
/-- an exception of a book of the letters L -/
structure ExcOk (L : List Nat) (e : Exc) : Prop where
  w : ∀ c ∈ e.1, c ∈ L
  w1 : 1 ≤ e.1.length
  w8 : e.1.length ≤ 8
  s : ∀ c ∈ e.2, 65 ≤ c ∧ c ≤ 90
  s36 : e.2.length ≤ 36
/-- a tuple as it was made: with no attributes of its own -/
def TupN (H : Hp) (a : Addr) (xs : List V) : Prop := ∃ o : Obj, H a = some (.frz o (.tup xs)) ∧ o.dict = none
theorem TupN.kt {H H' : Hp} {a : Addr} {xs : List V} (h : TupN H a xs) (e : KT H H') : TupN H' a xs := ⟨h.choose, e.2 _ _ _ h.choose_spec.1, h.choose_spec.2⟩
theorem TupN.rd {H : Hp} {a : Addr} {xs : List V} (h : TupN H a xs) : Rd H a (.tup xs) := .inr ⟨_, h.choose_spec.1⟩
def ExcsAt (H : Hp) (X : Addr) (es : List Exc) : Prop := ∃ ts : List Addr, TupN H X (ts.map V.ref) ∧ Paired (fun t (e : Exc) => H t = some (.tup [.str (T e.1), .str (T e.2)])) ts es
theorem ExcsAt.kt {H H' : Hp} {X : Addr} {es : List Exc} (h : ExcsAt H X es) (e : KT H H') : ExcsAt H' X es := by
  obtain ⟨ts, h1, h2⟩ := h
  exact ⟨ts, h1.kt e, paired_mono (fun t ρ q => e.1 _ _ q) h2⟩
structure BookOk (L : List Nat) (rs : List Rule) (es : List Exc) : Prop where
  lt : LetOk L
  rl : ∀ ρ ∈ rs, RuleOk L ρ
  r12 : rs.length ≤ 12
  ex : ∀ e ∈ es, ExcOk L e
  e8 : es.length ≤ 8
  up : es.Pairwise fun e f => e.1 < f.1
def BookAt (H : Hp) (b : Addr) (L : List Nat) (rs : List Rule) (es : List Exc) : Prop := ∃ R X, H b = some (.tup [.str (T L), .ref R, .ref X]) ∧ RulesAt H R rs ∧ ExcsAt H X es
theorem BookAt.kt {H H' : Hp} {b : Addr} {L : List Nat} {rs : List Rule} {es : List Exc} (h : BookAt H b L rs es) (e : KT H H') : BookAt H' b L rs es := by
  obtain ⟨R, X, h1, h2, h3⟩ := h
  exact ⟨R, X, e.1 _ _ h1, h2.kt e, h3.kt e⟩
section
variable {P : Program} {w : World} {K : PySem.W.Frag} {mg : Str → Option Value} {base : Heap}
abbrev sExcd : Stmt := topS 20
theorem scExcd : FnScope ["letters", "word"] ["letters", "word"] (defScope sExcd) := ⟨rfl, rfl, rfl, by decide +kernel, rfl, by decide +kernel, by decide +kernel⟩
def spExcd : Sp := fun vs H Q _ => ∃ (L z : List Nat), vs = [.str (T L), .str (T z)] ∧ z.length ≤ 100 ∧ ∀ (H' : Hp), Same H H' → Q (.bl (isText z L 1 8)) H'
theorem ok_excd {f : Addr} {fd : FuncData} (F : Fun K "is_excepted" "is_excepted" sExcd f fd) (C : Cn mg) (DT : Df P w K mg base "is_text" psIsText 1 spIsText) :
    FnOk P w K mg base CX0 2 f fd ["letters", "word"] spExcd := by
  obtain ⟨fT, fdT, GT, kT, bT, mT⟩ := DT
  obtain ⟨tX, mX⟩ := C.lexc
  refine F.ok scExcd (fun vs H Q E h => ?_) (fun cdv A outer s H vs Q E hr h => ?_)
  · obtain ⟨L, z, rfl, _⟩ := h
    rfl
  · obtain ⟨L, z, rfl, hl, q⟩ := h
    refine ⟨_, pss_one (ps_ret (pe_call GT hr (by rfl) mT kT bT .nil pass0 (pa_cons (pv 1) (pa_cons (pv 0) (pa_cons pe_int (pa_cons (pe_glob (v := .int 8) rfl mX ⟨_, rfl⟩) pa_nil)))))), ?_⟩
    exact ⟨_, rfl, _, rfl, z, L, 1, 8, rfl, hl, q⟩
abbrev sIsSo : Stmt := topS 21
theorem scIsSo : FnScope ["sounds"] ["sounds"] (defScope sIsSo) := ⟨rfl, rfl, rfl, by decide +kernel, rfl, by decide +kernel, by decide +kernel⟩
def spIsSo : Sp := fun vs H Q _ => ∃ (z : List Nat), vs = [.str (T z)] ∧ z.length ≤ 100 ∧ ∀ (H' : Hp), Same H H' → Q (.bl (isText z capsL 0 36)) H'
theorem ok_isSo {f : Addr} {fd : FuncData} (F : Fun K "is_sounds" "is_sounds" sIsSo f fd) (C : Cn mg) (DT : Df P w K mg base "is_text" psIsText 1 spIsText) :
    FnOk P w K mg base CX0 2 f fd ["sounds"] spIsSo := by
  obtain ⟨fT, fdT, GT, kT, bT, mT⟩ := DT
  obtain ⟨tC, mC⟩ := C.caps
  obtain ⟨tS, mS⟩ := C.lso
  refine F.ok scIsSo (fun vs H Q E h => ?_) (fun cdv A outer s H vs Q E hr h => ?_)
  · obtain ⟨z, rfl, _⟩ := h
    rfl
  · obtain ⟨z, rfl, hl, q⟩ := h
    refine ⟨_, pss_one (ps_ret (pe_call GT hr (by rfl) mT kT bT .nil pass0 (pa_cons (pv 0) (pa_cons (pe_glob (v := .str "ABCDEFGHIJKLMNOPQRSTUVWXYZ") rfl mC ⟨_, rfl⟩) (pa_cons pe_int (pa_cons (pe_glob (v := .int 36) rfl mS ⟨_, rfl⟩) pa_nil)))))), ?_⟩
    exact ⟨_, rfl, z, capsL, 0, 36, (by rw [caps_eq]; rfl), hl, q⟩
abbrev sIsExc : Stmt := topS 19
theorem scIsExc : FnScope ["letters", "pair", "word", "sounds"] ["letters", "pair"] (defScope sIsExc) := ⟨rfl, rfl, rfl, by decide +kernel, rfl, by decide +kernel, by decide +kernel⟩
def spIsExc : Sp := fun vs H Q _ => ∃ (L : List Nat) (t : Addr) (e : Exc), vs = [.str (T L), .ref t] ∧ H t = some (.tup [.str (T e.1), .str (T e.2)]) ∧ ExcOk L e ∧ ∀ (H' : Hp), Same H H' → Q (.bl true) H'
theorem ok_isExc {f : Addr} {fd : FuncData} (F : Fun K "is_exception" "is_exception" sIsExc f fd) (B : Bn mg) (DX : Df P w K mg base "is_excepted" ["letters", "word"] 2 spExcd) (DS : Df P w K mg base "is_sounds" ["sounds"] 2 spIsSo) :
    FnOk P w K mg base CX0 3 f fd ["letters", "pair"] spIsExc := by
  obtain ⟨fX, fdX, GX, kX, bX, mX⟩ := DX
  obtain ⟨fS, fdS, GS, kS, bS, mS⟩ := DS
  refine F.ok scIsExc (fun vs H Q E h => ?_) (fun cdv A outer s H vs Q E hr h => ?_)
  · obtain ⟨L, t, e, rfl, _⟩ := h
    rfl
  · obtain ⟨L, t, e, rfl, ht, ho, q⟩ := h
    refine ⟨_, pss_cons (ps_if (PW.pt (pw_or (pt_not (pt_val (pe_callB call_isi (by rfl) B.isi (by decide +kernel) (pa_cons (pv 1) (pa_cons (pe_bltn (v := .ty "tuple") rfl B.tup (by decide +kernel) rfl) pa_nil)))))
          (pw_or1 (pt_cmpR op_ne (pe_callB call_len (by rfl) B.len PySem.boot_len (pa_cons (pv 1) pa_nil)) pe_int (nomark _))))) (pss_one (ps_ret pe_bl)) pss_nil)
      (pss_cons (ps_asg (pv 1) (pg_tup (by rfl) (pgs_cons (pg_name (i := 2) scIsExc.nd rfl (.inl rfl)) (pgs_cons (pg_name (i := 3) scIsExc.nd rfl (.inl rfl)) pgs_nil))))
      (pss_one (ps_ret (pe_and (pe_call GX hr (by rfl) mX kX bX .nil pass0 (pa_cons (pv 0) (pa_cons (pv 2) pa_nil)))
        (pe_one (pe_call GS hr (by rfl) mS kS bS .nil pass0 (pa_cons (pv 3) pa_nil))))))), ?_⟩
    refine ⟨_, rfl, _, _, .type "tuple", _, true, rfl, ClsV.ty _, .base (.tup ht), kit_ty (by decide +kernel), true, rfl, iteF ?_⟩
    refine ⟨_, rfl, _, 2, rfl, .inr ⟨_, .inl (.inl ht), rfl⟩, rfl, _, rfl, iteF ?_⟩
    refine ⟨_, rfl, t, _, rfl, .inl (.inl ht), rfl, _, _, rfl, _, _, rfl, rfl, ?_⟩
    refine ⟨_, rfl, _, rfl, L, e.1, rfl, (by have := ho.w8; omega), fun H1 s1 => ?_⟩
    refine ⟨_, rfl, ?_⟩
    rw [isText_of ho.w1 ho.w8 ho.w]
    refine iteT ?_
    refine ⟨_, rfl, e.2, rfl, (by have := ho.s36; omega), fun H4 s4 => ?_⟩
    rw [isText_of (Nat.zero_le _) ho.s36 fun c hc => mem_caps (ho.s c hc)]
    exact q H4 (s1.trans s4)
abbrev sChL : Stmt := topS 15
theorem scChL : FnScope ["letters"] ["letters"] (defScope sChL) := ⟨rfl, rfl, rfl, by decide +kernel, rfl, by decide +kernel, by decide +kernel⟩
def spChL : Sp := fun vs H Q _ => ∃ (L : List Nat), vs = [.str (T L)] ∧ LetOk L ∧ ∀ (H' : Hp), Same H H' → Q .non H'
theorem ok_chL {f : Addr} {fd : FuncData} (F : Fun K "check_letters" "check_letters" sChL f fd) (C : Cn mg) (DT : Df P w K mg base "is_text" psIsText 1 spIsText) (DR : Df P w K mg base "is_rising" ["text"] 1 spRise) :
    FnOk P w K mg base CX0 2 f fd ["letters"] spChL := by
  obtain ⟨fT, fdT, GT, kT, bT, mT⟩ := DT
  obtain ⟨fR, fdR, GR, kR, bR, mR⟩ := DR
  obtain ⟨tS, mS⟩ := C.small
  refine F.ok scChL (fun vs H Q E h => ?_) (fun cdv A outer s H vs Q E hr h => ?_)
  · obtain ⟨L, rfl, _⟩ := h
    rfl
  · obtain ⟨L, rfl, hL, q⟩ := h
    refine ⟨_, pss_one (ps_if (PW.pt (pw_or (pt_not (pt_val (pe_call GT hr (by rfl) mT kT bT .nil pass0 (pa_cons (pv 0) (pa_cons (pe_glob (v := .str "abcdefghijklmnopqrstuvwxyz") rfl mS ⟨_, rfl⟩) (pa_cons pe_int (pa_cons pe_int pa_nil)))))))
        (pw_or1 (pt_not (pt_val (pe_call GR hr (by rfl) mR kR bR .nil pass0 (pa_cons (pv 0) pa_nil))))))) (pss_one ps_never) pss_nil), ?_⟩
    have l4 := hL.l4
    refine ⟨_, rfl, L, smallL, 2, 4, (by rw [small_eq]; rfl), by omega, fun H1 s1 => ?_⟩
    rw [isText_of hL.l2 hL.l4 fun c hc => mem_small (hL.az c hc)]
    refine ⟨true, rfl, iteF ?_⟩
    refine ⟨_, rfl, L, rfl, by omega, fun H2 s2 => ?_⟩
    rw [hL.up]
    refine ⟨true, rfl, iteF ?_⟩
    exact q H2 (s1.trans s2)
abbrev sChR : Stmt := topS 16
theorem scChR : FnScope ["letters", "rules", "number", "rule"] ["letters", "rules"] (defScope sChR) := ⟨rfl, rfl, rfl, by decide +kernel, rfl, by decide +kernel, by decide +kernel⟩
def spChR : Sp := fun vs H Q _ => ∃ (L : List Nat) (R : Addr) (rs : List Rule), vs = [.str (T L), .ref R] ∧ LetOk L ∧ RulesAt H R rs ∧ (∀ ρ ∈ rs, RuleOk L ρ) ∧ rs.length ≤ 12 ∧ ∀ (H' : Hp), Same H H' → Q .non H'
theorem ok_chR {f : Addr} {fd : FuncData} (F : Fun K "check_rules" "check_rules" sChR f fd) (B : Bn mg) (C : Cn mg) (DI : Df P w K mg base "is_rule" ["letters", "rule"] 3 spIsRule) :
    FnOk P w K mg base CX0 4 f fd ["letters", "rules"] spChR := by
  obtain ⟨fI, fdI, GI, kI, bI, mI⟩ := DI
  obtain ⟨tS, mS⟩ := C.mrul
  refine F.ok scChR (fun vs H Q E h => ?_) (fun cdv A outer s H vs Q E hr h => ?_)
  · obtain ⟨L, R, rs, rfl, _⟩ := h
    rfl
  · obtain ⟨L, R, rs, rfl, hL, ⟨ts, hR, hp⟩, ho, h12, q⟩ := h
    refine ⟨_, pss_cons (ps_if (pt_not (pt_val (pe_callB call_isi (by rfl) B.isi (by decide +kernel) (pa_cons (pv 1) (pa_cons (pe_bltn (v := .ty "tuple") rfl B.tup (by decide +kernel) rfl) pa_nil))))) (pss_one ps_never) pss_nil)
      (pss_one (ps_for PassesOwn.never rfl (pi_enumT (by rfl) B.enu (pa_cons (pv 1) pa_nil)) (pg_tup (by rfl) (pgs_cons (pg_name (i := 2) scChR.nd rfl (.inl rfl)) (pgs_cons (pg_name (i := 3) scChR.nd rfl (.inl rfl)) pgs_nil)))
        (pss_one (ps_if (PW.pt (pw_or (pt_cmpR op_eq (pv 2) (pe_glob (v := .int 12) rfl mS ⟨_, rfl⟩) (nomark _)) (pw_or1 (pt_not (pt_val (pe_call GI hr (by rfl) mI kI bI .nil pass0 (pa_cons (pv 0) (pa_cons (pv 3) pa_nil)))))))) (pss_one ps_never) pss_nil)))), ?_⟩
    refine ⟨_, rfl, _, _, .type "tuple", _, true, rfl, ClsV.ty _, .base (.tup hR), kit_ty (by decide +kernel), true, rfl, iteF ?_⟩
    refine ⟨_, rfl, R, _, rfl, .inl (.inl hR), for_it (walk_enumT (xs := ts.map V.ref)) (fun i σ H2 => Same H H2 ∧ ∃ v2 v3, σ = [some (.str (T L)), some (.ref R), v2, v3]) ⟨Same.refl H, _, _, rfl⟩ (fun i σ H2 _ h => .inl (.inl (h.1 _ _ hR))) ?_ ?_⟩
    · rintro i x σ H2 H3 hi ⟨s2, v2, v3, rfl⟩ ⟨t, x1, x2, rfl, ht, rfl, g1, g2⟩
      cases g1
      have g2 : (ts.map V.ref)[i]? = some x2 := g2
      rw [List.getElem?_map] at g2
      obtain ⟨a, ha, e⟩ := Option.map_eq_some_iff.mp g2
      subst e
      obtain ⟨ρ, hρ, hat⟩ := paired_at hp ha
      have sm := same_new ht (.tup [.int (i : Nat), .ref a])
      have hi2 : i < rs.length := (List.getElem?_eq_some_iff.mp hρ).1
      refine ⟨t, _, rfl, .inl (.inl upd_same), rfl, _, _, rfl, _, _, rfl, rfl, ?_⟩
      refine ⟨_, rfl, rfl, _, rfl, ?_⟩
      have nq : ¬ V.int ((i : Nat) : Int) = V.int 12 := fun z => by
        have := V.int.inj z
        omega
      rw [decide_eq_false nq]
      refine iteF ?_
      refine ⟨_, rfl, _, rfl, L, a, ρ, rfl, sm _ _ (s2 _ _ hat), hL, ho ρ (List.mem_of_getElem? hρ), fun H4 s4 => ?_⟩
      exact ⟨true, rfl, iteF ⟨s2.trans (sm.trans s4), _, _, rfl⟩⟩
    · rintro σ H2 ⟨s2, v2, v3, rfl⟩
      exact q H2 s2
end
end Say
namespace Say
open PySem PySem.Spec PyProof.Rows L2
/-- does the rule fit at the place of the signs -/
def fitsL (ρ : Rule) (z : List Nat) (i : Nat) : Bool :=
  if (z.drop i).take ρ.ow.length = ρ.ow then (decide (ρ.ah = []) || decide (z.getD (i - 1) 0 ∈ ρ.ah)) && (decide (ρ.be = []) || decide (z.getD (i + ρ.ow.length) 0 ∈ ρ.be)) else false
/-- a word between its edges -/
def sgn (wd : List Nat) : List Nat := 35 :: (wd ++ [35])
theorem sgn_len (wd : List Nat) : (sgn wd).length = wd.length + 2 := by simp [sgn]
theorem sgn_last (wd : List Nat) : (sgn wd)[wd.length + 1]? = some 35 := by
  unfold sgn
  rw [List.getElem?_cons_succ, List.getElem?_append_right (Nat.le_refl _), Nat.sub_self]
  rfl
theorem cut_at {z : List Nat} {i n : Nat} (h : i ≤ z.length) : cutS (T z) (some (i : Int)) (some ((i + n : Nat) : Int)) = T ((z.drop i).take n) := by
  unfold cutS
  rw [T_len, HT.sIx_nat, HT.sIx_nat, Nat.min_eq_left h]
  show T ((z.drop i).take (min (i + n) z.length - i)) = _
  congr 1
  by_cases c : i + n ≤ z.length
  · rw [Nat.min_eq_left c, Nat.add_sub_cancel_left]
  · rw [Nat.min_eq_right (by omega), List.take_of_length_le (by rw [List.length_drop]; omega), List.take_of_length_le (by rw [List.length_drop]; omega)]
theorem fit_room {wd ow : List Nat} {i : Nat} (h : ((sgn wd).drop i).take ow.length = ow) (h1 : 1 ≤ ow.length) (h35 : 35 ∉ ow) : i + ow.length ≤ wd.length + 1 := by
  have hl := congrArg List.length h
  rw [List.length_take, List.length_drop, sgn_len] at hl
  refine Decidable.byContradiction fun n => h35 ?_
  have e : i + ow.length = wd.length + 2 := by omega
  have g : ow[ow.length - 1]? = some 35 := by
    rw [← h, List.getElem?_take_of_lt (by rw [h]; omega), List.getElem?_drop]
    rw [show i + ((((sgn wd).drop i).take ow.length).length - 1) = wd.length + 1 by rw [h]; omega]
    exact sgn_last wd
  exact List.mem_of_getElem? g
theorem dec_nil (l : List Nat) : decide (V.str (T l) = V.str (Str.ofString "")) = decide (l = []) := by
  rw [show Str.ofString "" = T [] from nil_eq]
  refine decide_eq_decide.mpr ⟨fun z => T_inj (V.str.inj z), fun z => by rw [z]⟩
section
variable {P : Program} {w : World} {K : PySem.W.Frag} {mg : Str → Option Value} {base : Heap}
abbrev sFits : Stmt := topS 27
theorem scFits : FnScope ["rule", "signs", "at", "ahead", "own", "behind", "_", "past"] ["rule", "signs", "at"] (defScope sFits) := ⟨rfl, rfl, rfl, by decide +kernel, rfl, by decide +kernel, by decide +kernel⟩
/-- where its letters stand, the sign behind them stands, too -/
def RoomAt (ρ : Rule) (z : List Nat) (i : Nat) : Prop := (z.drop i).take ρ.ow.length = ρ.ow → i + ρ.ow.length < z.length
def spFits : Sp := fun vs H Q _ => ∃ (t : Addr) (ρ : Rule) (z : List Nat) (i : Nat), vs = [.ref t, .str (T z), .int i] ∧ H t = some (.tup ρ.vs) ∧ ρ.ow.length ≤ 2 ∧ 1 ≤ i ∧ i ≤ z.length ∧ z.length ≤ 100 ∧ RoomAt ρ z i ∧
  Q (.bl (fitsL ρ z i)) H
theorem ok_fits {f : Addr} {fd : FuncData} (F : Fun K "fits" "fits" sFits f fd) (B : Bn mg) : FnOk P w K mg base CX0 1 f fd ["rule", "signs", "at"] spFits := by
  refine F.ok scFits (fun vs H Q E h => ?_) (fun cdv A outer s H vs Q E hr h => ?_)
  · obtain ⟨t, ρ, z, i, rfl, _⟩ := h
    rfl
  · obtain ⟨t, ρ, z, i, rfl, ht, h2, hi1, hi, hw, hroom, q⟩ := h
    refine ⟨_, pss_cons (ps_asg (pv 0) (pg_tup (by rfl) (pgs_cons (pg_name (i := 3) scFits.nd rfl (.inl rfl)) (pgs_cons (pg_name (i := 4) scFits.nd rfl (.inl rfl)) (pgs_cons (pg_name (i := 5) scFits.nd rfl (.inl rfl)) (pgs_cons (pg_name (i := 6) scFits.nd rfl (.inl rfl)) pgs_nil))))))
      (pss_cons (ps_set (i := 7) scFits.nd rfl (.inl rfl) (pe_op op_add (pv 2) (pe_callB call_len_str (by rfl) B.len PySem.boot_len (pa_cons (pv 4) pa_nil))))
      (pss_cons (ps_if (pt_cmpR op_ne (pe_slice sl_str (pv 1) (po_some (pv 2)) (po_some (pv 7))) (pv 4) (nomark _)) (pss_one (ps_ret pe_bl)) pss_nil)
      (pss_one (ps_ret (pe_and (pe_or (pe_cmpR op_eq (pv 3) pe_str (nomark _)) (pe_one (pe_cmpR op_in_sign (pe_ix ix_str (pv 1) (pe_op op_sub (pv 2) pe_int) (fun _ _ => rfl)) (pv 3) rfl)))
        (pe_one (pe_or (pe_cmpR op_eq (pv 5) pe_str (nomark _)) (pe_one (pe_cmpR op_in_sign (pe_ix ix_str (pv 1) (pv 7) (fun _ _ => rfl)) (pv 5) rfl))))))))), ?_⟩
    have hzl : (T z).length ≤ sizeLine := by rw [T_len]; exact small (by omega)
    have hol : (T ρ.ow).length ≤ sizeLine := by rw [T_len]; exact small (by omega)
    refine ⟨_, rfl, t, _, rfl, .inl (.inl ht), rfl, _, _, rfl, _, _, rfl, _, _, rfl, _, _, rfl, rfl, ?_⟩
    refine ⟨_, rfl, _, rfl, _, rfl, hol, _, _, rfl, rfl, ?_⟩
    refine ⟨_, rfl, _, rfl, _, rfl, _, rfl, _, rfl, T z, rfl, hzl, _, rfl, ?_⟩
    rw [show ((i : Nat) : Int) + ((T ρ.ow).length : Int) = ((i + ρ.ow.length : Nat) : Int) by rw [T_len]; omega, cut_at (by omega)]
    refine ⟨rfl, _, rfl, ?_⟩
    have eow : (V.str (T ((z.drop i).take ρ.ow.length)) = V.str (T ρ.ow)) ↔ (z.drop i).take ρ.ow.length = ρ.ow :=
      ⟨fun z => T_inj (V.str.inj z), fun z => by rw [z]⟩
    by_cases c : (z.drop i).take ρ.ow.length = ρ.ow
    · rw [decide_eq_true (eow.mpr c)]
      refine iteF ?_
      have room := hroom c
      unfold fitsL at q
      rw [if_pos c] at q
      -- ahead
      refine ⟨_, rfl, rfl, _, rfl, ?_⟩
      rw [dec_nil]
      have g1 : (T z).cps.toList[i - 1]? = some (z.getD (i - 1) 0) := by rw [T_cps, List.getD_eq_getElem?_getD, List.getElem?_eq_getElem (by omega)]; rfl
      have g2 : (T z).cps.toList[i + ρ.ow.length]? = some (z.getD (i + ρ.ow.length) 0) := by rw [T_cps, List.getD_eq_getElem?_getD, List.getElem?_eq_getElem (by omega)]; rfl
      refine ite2 (fun c1 => ?_) (fun c1 => ?_)
      · refine ⟨true, rfl, iteT ?_⟩
        have q2 : Q (.bl (decide (ρ.be = []) || decide (z.getD (i + ρ.ow.length) 0 ∈ ρ.be))) H := by
          rw [c1, Bool.true_or, Bool.true_and] at q; exact q
        refine ⟨_, rfl, rfl, _, rfl, ?_⟩
        rw [dec_nil]
        refine ite2 (fun d1 => ?_) (fun d1 => ?_)
        · rw [d1, Bool.true_or] at q2
          exact q2
        · rw [Bool.eq_false_iff.mpr d1, Bool.false_or] at q2
          exact ⟨_, rfl, _, rfl, T z, _, _, rfl, rfl, hzl, atI_of g2 (by rw [T_len]; omega), _, rfl, _, T ρ.be, rfl, rfl, q2⟩
      · rw [Bool.eq_false_iff.mpr c1, Bool.false_or] at q
        refine ⟨_, rfl, _, rfl, _, _, rfl, rfl, T z, _, _, rfl, rfl, hzl, atI_of g1 (by omega), _, rfl, _, T ρ.ah, rfl, rfl, _, rfl, ?_⟩
        refine ite2 (fun c2 => ?_) (fun c2 => ?_)
        · have q2 : Q (.bl (decide (ρ.be = []) || decide (z.getD (i + ρ.ow.length) 0 ∈ ρ.be))) H := by
            rw [show decide (z.getD (i - 1) 0 ∈ ρ.ah) = true from c2, Bool.true_and] at q; exact q
          refine ⟨_, rfl, rfl, _, rfl, ?_⟩
          rw [dec_nil]
          refine ite2 (fun d1 => ?_) (fun d1 => ?_)
          · rw [d1, Bool.true_or] at q2
            exact q2
          · rw [Bool.eq_false_iff.mpr d1, Bool.false_or] at q2
            exact ⟨_, rfl, _, rfl, T z, _, _, rfl, rfl, hzl, atI_of g2 (by rw [T_len]; omega), _, rfl, _, T ρ.be, rfl, rfl, q2⟩
        · rw [show decide (z.getD (i - 1) 0 ∈ ρ.ah) = false from Bool.eq_false_iff.mpr c2, Bool.false_and] at q
          exact q
    · rw [decide_eq_false fun z => c (eow.mp z)]
      refine iteT ?_
      unfold fitsL at q
      rw [if_neg c] at q
      exact q
end
end Say
namespace Say
open PySem PySem.Spec PyProof.Rows L2
/-- the number of the first rule that fits -/
def ff (rs : List Rule) (z : List Nat) (i : Nat) : Option Nat := rs.findIdx? fun ρ => fitsL ρ z i
def ruleAt (rs : List Rule) (k : Nat) : Rule := rs.getD k ⟨[], [], [], []⟩
/-- the steps from a place on, and where it is stuck -/
def wk (rs : List Rule) (z : List Nat) : Nat → Nat → List (Nat × Nat) × Option Nat
  | 0, _ => ([], none)
  | m + 1, i => if i < z.length - 1 then
      match ff rs z i with
      | none => ([], some (i - 1))
      | some k => ((i - 1, k) :: (wk rs z m (i + (ruleAt rs k).ow.length)).1, (wk rs z m (i + (ruleAt rs k).ow.length)).2)
    else ([], none)
def W (rs : List Rule) (wd : List Nat) : List (Nat × Nat) × Option Nat := wk rs (sgn wd) (wd.length + 1) 1
theorem wk_end (rs : List Rule) (z : List Nat) (m i : Nat) (h : ¬ i < z.length - 1) : wk rs z m i = ([], none) := by
  cases m with
  | zero => rfl
  | succ m =>
    unfold wk
    rw [if_neg h]
theorem wk_none {rs : List Rule} {z : List Nat} {m i : Nat} (h : i < z.length - 1) (e : ff rs z i = none) : wk rs z (m + 1) i = ([], some (i - 1)) := by
  rw [wk, if_pos h, e]
theorem wk_some {rs : List Rule} {z : List Nat} {m i k : Nat} (h : i < z.length - 1) (e : ff rs z i = some k) : wk rs z (m + 1) i = ((i - 1, k) :: (wk rs z m (i + (ruleAt rs k).ow.length)).1, (wk rs z m (i + (ruleAt rs k).ow.length)).2) := by
  rw [wk, if_pos h, e]
theorem wk_len (rs : List Rule) (z : List Nat) : ∀ m i : Nat, (wk rs z m i).1.length ≤ m
  | 0, _ => Nat.le_refl 0
  | m + 1, i => by
    by_cases h : i < z.length - 1
    · cases e : ff rs z i with
      | none => rw [wk_none h e]; exact Nat.zero_le _
      | some k =>
        rw [wk_some h e]
        exact Nat.succ_le_succ (wk_len rs z m _)
    · rw [wk_end rs z _ i h]
      exact Nat.zero_le _
theorem ff_lt {rs : List Rule} {z : List Nat} {i k : Nat} (e : ff rs z i = some k) : k < rs.length := by
  obtain ⟨h, _⟩ := List.findIdx?_eq_some_iff_getElem.mp e
  exact h
theorem ruleAt_eq {rs : List Rule} {k : Nat} {ρ : Rule} (h : rs[k]? = some ρ) : ruleAt rs k = ρ := by
  unfold ruleAt
  rw [List.getD_eq_getElem?_getD, h]
  rfl
/-- what rules ask for the walk -/
structure RlOk (ρ : Rule) : Prop where
  o1 : 1 ≤ ρ.ow.length
  o2 : ρ.ow.length ≤ 2
  h35 : 35 ∉ ρ.ow
  s3 : ρ.so.length ≤ 3
theorem RuleOk.rl {L : List Nat} {ρ : Rule} (hL : LetOk L) (h : RuleOk L ρ) : RlOk ρ := ⟨h.o1, h.o2, fun z => by have := (hL.az _ (h.ow _ z)).1; omega, h.s3⟩
theorem BookOk.rls {L : List Nat} {rs : List Rule} {es : List Exc} (h : BookOk L rs es) : ∀ ρ ∈ rs, RlOk ρ := fun ρ hρ => (h.rl ρ hρ).rl h.lt
theorem eqT {a b : List Nat} : decide (V.str (T a) = V.str (T b)) = decide (a = b) := decide_eq_decide.mpr ⟨fun z => T_inj (V.str.inj z), fun z => by rw [z]⟩
theorem wk_stuck (rs : List Rule) (z : List Nat) : ∀ m i p : Nat, 1 ≤ i → (wk rs z m i).2 = some p → p + 2 ≤ z.length
  | 0, i, p, _, h => by cases h
  | m + 1, i, p, hi, h => by
    by_cases c : i < z.length - 1
    · cases e : ff rs z i with
      | none =>
        rw [wk_none c e] at h
        cases h
        omega
      | some k =>
        rw [wk_some c e] at h
        exact wk_stuck rs z m _ p (by omega) h
    · rw [wk_end rs z _ i c] at h
      cases h
theorem W_stuck {rs : List Rule} {wd : List Nat} {p : Nat} (h : (W rs wd).2 = some p) : p ≤ wd.length := by
  have := wk_stuck rs (sgn wd) _ 1 p (Nat.le_refl 1) h
  rw [sgn_len] at this
  omega
section
variable {P : Program} {w : World} {K : PySem.W.Frag} {mg : Str → Option Value} {base : Heap}
abbrev sFF : Stmt := topS 28
theorem scFF : FnScope ["rules", "signs", "at", "number", "rule"] ["rules", "signs", "at"] (defScope sFF) := ⟨rfl, rfl, rfl, by decide +kernel, rfl, by decide +kernel, by decide +kernel⟩
def optI : Option Nat → V
  | none => .non
  | some k => .int k
def spFF : Sp := fun vs H Q _ => ∃ (R : Addr) (rs : List Rule) (z : List Nat) (i : Nat), vs = [.ref R, .str (T z), .int i] ∧ RulesAt H R rs ∧ (∀ ρ ∈ rs, RlOk ρ) ∧ 1 ≤ i ∧ i ≤ z.length ∧ z.length ≤ 100 ∧ (∀ ρ ∈ rs, RoomAt ρ z i) ∧
  ∀ H', Same H H' → Q (optI (ff rs z i)) H'
theorem room_sgn {rs : List Rule} (h : ∀ ρ ∈ rs, RlOk ρ) (wd : List Nat) (i : Nat) : ∀ ρ ∈ rs, RoomAt ρ (sgn wd) i := fun ρ hρ c => by
  have := fit_room c (h ρ hρ).o1 (h ρ hρ).h35
  rw [sgn_len]
  omega
theorem ok_FF {f : Addr} {fd : FuncData} (F : Fun K "first_fit" "first_fit" sFF f fd) (B : Bn mg) (DF : Df P w K mg base "fits" ["rule", "signs", "at"] 1 spFits) : FnOk P w K mg base CX0 2 f fd ["rules", "signs", "at"] spFF := by
  obtain ⟨fF, fdF, GF, kF, bF, mF⟩ := DF
  refine F.ok scFF (fun vs H Q E h => ?_) (fun cdv A outer s H vs Q E hr h => ?_)
  · obtain ⟨R, rs, z, i, rfl, _⟩ := h
    rfl
  · obtain ⟨R, rs, z, i, rfl, ⟨ts, hR, hp⟩, ho, hi1, hi, hw, hrm, q⟩ := h
    refine ⟨_, pss_cons (ps_for PassesOwn.never rfl (pi_enumT (by rfl) B.enu (pa_cons (pv 0) pa_nil)) (pg_tup (by rfl) (pgs_cons (pg_name (i := 3) scFF.nd rfl (.inl rfl)) (pgs_cons (pg_name (i := 4) scFF.nd rfl (.inl rfl)) pgs_nil)))
        (pss_one (ps_if (pt_val (pe_call GF hr (by rfl) mF kF bF .nil pass0 (pa_cons (pv 4) (pa_cons (pv 1) (pa_cons (pv 2) pa_nil))))) (pss_one (ps_ret (pv 3))) pss_nil)))
      (pss_one (ps_ret pe_non)), ?_⟩
    refine ⟨_, rfl, R, _, rfl, .inl (.inl hR), for_it (walk_enumT (xs := ts.map V.ref)) (fun j σ H2 => Same H H2 ∧ (∃ v3 v4, σ = [some (.ref R), some (.str (T z)), some (.int i), v3, v4]) ∧ ∀ k ρ, k < j → rs[k]? = some ρ → fitsL ρ z i = false)
      ⟨Same.refl H, ⟨_, _, rfl⟩, fun k ρ h => absurd h (Nat.not_lt_zero k)⟩ (fun j σ H2 _ h => .inl (.inl (h.1 _ _ hR))) ?_ ?_⟩
    · rintro j x σ H2 H3 hj ⟨s2, ⟨v3, v4, rfl⟩, hn⟩ ⟨t, x1, x2, rfl, ht, rfl, g1, g2⟩
      cases g1
      have g2 : (ts.map V.ref)[j]? = some x2 := g2
      rw [List.getElem?_map] at g2
      obtain ⟨a, ha, e⟩ := Option.map_eq_some_iff.mp g2
      subst e
      obtain ⟨ρ, hρ, hat⟩ := paired_at hp ha
      have hm := ho ρ (List.mem_of_getElem? hρ)
      have sm := same_new ht (.tup [.int (j : Nat), .ref a])
      refine ⟨t, _, rfl, .inl (.inl upd_same), rfl, _, _, rfl, _, _, rfl, rfl, ?_⟩
      refine ⟨_, rfl, _, rfl, _, rfl, a, ρ, z, i, rfl, sm _ _ (s2 _ _ hat), hm.o2, hi1, hi, hw, hrm ρ (List.mem_of_getElem? hρ), _, rfl, ite2 (fun c => ?_) (fun c => ?_)⟩
      · refine ⟨_, rfl, ?_⟩
        have := q _ (s2.trans sm)
        have e : ff rs z i = some j := by
          refine List.findIdx?_eq_some_iff_getElem.mpr ⟨(List.getElem?_eq_some_iff.mp hρ).1, ?_, fun k hk => ?_⟩
          · rw [(List.getElem?_eq_some_iff.mp hρ).2]
            exact c
          · rw [hn k _ hk (List.getElem?_eq_getElem (by have := (List.getElem?_eq_some_iff.mp hρ).1; omega))]
            exact Bool.false_ne_true
        rw [e] at this
        exact this
      · refine ⟨s2.trans sm, ⟨_, _, rfl⟩, fun k ρ' hk hk' => ?_⟩
        by_cases e : k = j
        · subst e
          rw [hρ] at hk'
          cases hk'
          exact Bool.eq_false_iff.mpr c
        · exact hn k ρ' (by omega) hk'
    · rintro σ H2 ⟨s2, ⟨v3, v4, rfl⟩, hn⟩
      have := q _ s2
      have e : ff rs z i = none := by
        refine List.findIdx?_eq_none_iff.mpr fun ρ hρ => ?_
        obtain ⟨k, hk⟩ := List.mem_iff_getElem?.mp hρ
        have hl := (List.getElem?_eq_some_iff.mp hk).1
        exact hn k ρ (by rw [List.length_map, paired_len hp]; exact hl) hk
      rw [e] at this
      exact this
abbrev sSt : Stmt := topS 29
theorem scSt : FnScope ["rules", "tail", "signs", "steps", "at", "number"] ["rules", "tail"] (defScope sSt) := ⟨rfl, rfl, rfl, by decide +kernel, rfl, by decide +kernel, by decide +kernel⟩
/-- the list at D holds steps -/
def StepsAt (H : Hp) (D : Addr) (ss : List (Nat × Nat)) : Prop := ∃ ts : List Addr, H D = some (.lst (ts.map V.ref)) ∧ Paired (fun t (s : Nat × Nat) => H t = some (.tup [.int (s.1 : Nat), .int (s.2 : Nat)])) ts ss
theorem StepsAt.same {H H' : Hp} {D : Addr} {ss : List (Nat × Nat)} (h : StepsAt H D ss) (e : Same H H') : StepsAt H' D ss := by
  obtain ⟨ts, h1, h2⟩ := h
  exact ⟨ts, e _ _ h1, paired_mono (fun t ρ q => e _ _ q) h2⟩
theorem len1 (tl : List Nat) : (tl ++ [35]).length = tl.length + 1 := by simp
/-- a tail's steps, and where it is stuck -/
def Wt (rs : List Rule) (tl : List Nat) : List (Nat × Nat) × Option Nat := wk rs (tl ++ [35]) tl.length 1
theorem W_Wt (rs : List Rule) (wd : List Nat) : W rs wd = Wt rs (35 :: wd) := rfl
theorem fit_roomT {tl ow : List Nat} {i : Nat} (h : ((tl ++ [35]).drop i).take ow.length = ow) (h1 : 1 ≤ ow.length) (h35 : 35 ∉ ow) : i + ow.length ≤ tl.length := by
  have hl := congrArg List.length h
  rw [List.length_take, List.length_drop, List.length_append, List.length_singleton] at hl
  refine Decidable.byContradiction fun n => h35 ?_
  have e : i + ow.length = tl.length + 1 := by omega
  have g : ow[ow.length - 1]? = some 35 := by
    rw [← h, List.getElem?_take_of_lt (by rw [h]; omega), List.getElem?_drop]
    rw [show i + ((((tl ++ [35] : List Nat).drop i).take ow.length).length - 1) = tl.length by rw [h]; omega]
    rw [List.getElem?_append_right (Nat.le_refl _), Nat.sub_self]
    rfl
  exact List.mem_of_getElem? g
theorem room_tl {rs : List Rule} (h : ∀ ρ ∈ rs, RlOk ρ) (tl : List Nat) (i : Nat) : ∀ ρ ∈ rs, RoomAt ρ (tl ++ [35]) i := fun ρ hρ c => by
  have := fit_roomT c (h ρ hρ).o1 (h ρ hρ).h35
  rw [List.length_append, List.length_singleton]
  omega
def spSt : Sp := fun vs H Q _ => ∃ (R : Addr) (rs : List Rule) (tl : List Nat), vs = [.ref R, .str (T tl)] ∧ RulesAt H R rs ∧ (∀ ρ ∈ rs, RlOk ρ) ∧ 1 ≤ tl.length ∧ tl.length ≤ 81 ∧
  ∀ (t D : Addr) (H' : Hp), Same H H' → H D = none → H' t = some (.tup [.ref D, optI (Wt rs tl).2]) → StepsAt H' D (Wt rs tl).1 → Q (.ref t) H'
theorem ok_St {f : Addr} {fd : FuncData} (F : Fun K "steps_of" "steps_of" sSt f fd) (B : Bn mg) (C : Cn mg) (cO : KI mg "OWN" 1) (DF : Df P w K mg base "first_fit" ["rules", "signs", "at"] 2 spFF) : FnOk P w K mg base CX0 3 f fd ["rules", "tail"] spSt := by
  obtain ⟨fF, fdF, GF, kF, bF, mF⟩ := DF
  obtain ⟨tE, mE⟩ := C.edge
  obtain ⟨tO, mO⟩ := cO
  refine F.ok scSt (fun vs H Q E h => ?_) (fun cdv A outer s H vs Q E hr h => ?_)
  · obtain ⟨R, rs, tl, rfl, _⟩ := h
    rfl
  · obtain ⟨R, rs, tl, rfl, hR, ho, hl1, hw, q⟩ := h
    refine ⟨_, pss_cons (ps_set (i := 2) scSt.nd rfl (.inl rfl) (pe_op op_add_str (pv 1) (pe_glob (v := .str "#") rfl mE ⟨_, rfl⟩)))
      (pss_cons (ps_set (i := 3) scSt.nd rfl (.inl rfl) (pe_lst pa_nil))
      (pss_cons (ps_set (i := 4) scSt.nd rfl (.inl rfl) pe_int)
      (pss_cons (ps_while PassesOwn.never (pt_cmpR op_lt (pv 4) (pe_op op_sub (pe_callB call_len_str (by rfl) B.len PySem.boot_len (pa_cons (pv 2) pa_nil)) pe_int) (nomark _))
        (pss_cons (ps_set (i := 5) scSt.nd rfl (.inl rfl) (pe_call GF hr (by rfl) mF kF bF .nil pass0 (pa_cons (pv 0) (pa_cons (pv 2) (pa_cons (pv 4) pa_nil)))))
        (pss_cons (ps_if (pt_cmpR op_isN (pv 5) pe_non (nomark _)) (pss_one (ps_ret (pe_tup (pa_cons (pv 3) (pa_cons (pe_op op_sub (pv 4) pe_int) pa_nil))))) pss_nil)
        (pss_cons (ps_expr (pe_bm PySem.F.plainAttrs_list PySem.F.slot_list_append PySem.F.type_list_append mt_append (pv 3) (pa_cons (pe_tup (pa_cons (pe_op op_sub (pv 4) pe_int) (pa_cons (pv 5) pa_nil))) pa_nil)))
        (pss_one (ps_aug (i := 4) scSt.nd rfl (.inl rfl) (pe_callB call_len_str (by rfl) B.len PySem.boot_len (pa_cons (pe_ix ix_tup (pe_ix ix_tup (pv 0) (pv 5) (fun _ _ => rfl)) (pe_glob (v := .int 1) rfl mO ⟨_, rfl⟩) (fun _ _ => rfl)) pa_nil)) ip_add))))))
      (pss_one (ps_ret (pe_tup (pa_cons (pv 3) (pa_cons pe_non pa_nil)))))))), ?_⟩
    refine ⟨_, rfl, _, _, rfl, rfl, (by rw [len_hash, T_len]; exact small (by omega)), ?_⟩
    rw [app_hash]
    show tSeq _ _ _ _ _
    refine ⟨(by show 0 ≤ sizeLine; decide), fun D hD => ?_⟩
    obtain ⟨rts, hRt, hRp⟩ := id hR
    have zl : (T (tl ++ [35])).length = tl.length + 1 := by rw [T_len, len1]
    have hz0 : (T (tl ++ [35])).length ≤ sizeLine := by rw [zl]; exact small (by omega)
    refine ⟨fun m σ H2 => ∃ (i : Nat) (acc : List (Nat × Nat)) (v5 : Option V), σ = [some (.ref R), some (.str (T tl)), some (.str (T (tl ++ [35]))), some (.ref D), some (.int i), v5] ∧ 1 ≤ i ∧ tl.length + 1 ≤ i + m ∧ Same H H2 ∧ StepsAt H2 D acc ∧
      Wt rs tl = (acc ++ (wk rs (tl ++ [35]) m i).1, (wk rs (tl ++ [35]) m i).2), ⟨tl.length, 1, [], _, rfl, Nat.le_refl _, by omega, same_new hD _, ⟨[], upd_same, .nil⟩, rfl⟩, fun m σ H2 hW => ?_⟩
    obtain ⟨i, acc, v5, rfl, hi1, hm, s2, hS, hW⟩ := hW
    refine ⟨_, rfl, _, rfl, _, rfl, hz0, _, _, rfl, rfl, _, _, rfl, rfl, _, rfl, ite2 (fun c => ?_) (fun c => ?_)⟩
    · have c' : (i : Int) < ((T (tl ++ [35])).length : Int) - 1 := of_decide_eq_true c
      rw [zl] at c'
      have hi : i < tl.length := by omega
      have hlt : i < (tl ++ [35]).length - 1 := by rw [len1]; omega
      obtain ⟨m', rfl⟩ : ∃ m', m = m' + 1 := ⟨m - 1, by omega⟩
      refine ⟨fun σ' H' => ∃ (i : Nat) (acc : List (Nat × Nat)) (v5 : Option V), σ' = [some (.ref R), some (.str (T tl)), some (.str (T (tl ++ [35]))), some (.ref D), some (.int i), v5] ∧ 1 ≤ i ∧ tl.length + 1 ≤ i + m' ∧ Same H H' ∧ StepsAt H' D acc ∧
        Wt rs tl = (acc ++ (wk rs (tl ++ [35]) m' i).1, (wk rs (tl ++ [35]) m' i).2), fun σ' H' h => ⟨m', Nat.lt_succ_self _, h⟩, ?_⟩
      refine ⟨_, rfl, _, rfl, _, rfl, R, rs, tl ++ [35], i, rfl, hR.kt (.of s2), ho, hi1, by rw [len1]; omega, by rw [len1]; omega, room_tl ho tl i, fun H3 s3 => ?_⟩
      have s23 := s2.trans s3
      obtain ⟨ts, hDl, hDp⟩ := hS.same s3
      cases e : ff rs (tl ++ [35]) i with
      | none =>
        rw [wk_none hlt e] at hW
        refine ⟨_, rfl, rfl, _, rfl, iteT ?_⟩
        refine ⟨_, rfl, _, rfl, _, _, rfl, rfl, (by show 2 ≤ sizeLine; decide), fun t ht => ?_⟩
        have sm := same_new ht (.tup [.ref D, .int ((i : Int) - 1)])
        refine q t D _ (s23.trans sm) hD ?_ ?_
        · rw [upd_same, hW]
          show some (HO.tup [V.ref D, V.int ((i : Int) - 1)]) = some (HO.tup [V.ref D, V.int ((i - 1 : Nat) : Int)])
          rw [show ((i - 1 : Nat) : Int) = (i : Int) - 1 by omega]
        · rw [hW, List.append_nil]
          exact StepsAt.same ⟨ts, hDl, hDp⟩ sm
      | some k =>
        rw [wk_some hlt e] at hW
        have hk := ff_lt e
        obtain ⟨a, ha, hat⟩ := paired_at' hRp (List.getElem?_eq_getElem hk)
        have hm2 := ho _ (List.getElem_mem hk)
        have er : ruleAt rs k = rs[k] := ruleAt_eq (List.getElem?_eq_getElem hk)
        refine ⟨_, rfl, rfl, _, rfl, ?_⟩
        rw [show decide (optI (some k) = V.non) = false from decide_eq_false (fun z => by cases z)]
        refine iteF ?_
        refine ⟨_, rfl, .inl ⟨rfl, _, .inl (.inl hDl)⟩, _, rfl, _, _, rfl, rfl, _, rfl, (by show 2 ≤ sizeLine; decide), fun t ht => ?_⟩
        have sm := same_new ht (.tup [.int ((i : Int) - 1), .int (k : Nat)])
        have hDl' := sm _ _ hDl
        have sall : Same H (upd (upd H3 t (.tup [.int ((i : Int) - 1), .int (k : Nat)])) D (.lst (ts.map V.ref ++ [.ref t]))) := fun b u e => by
          rw [upd_ne (ne_of_none e hD)]
          exact sm _ _ (s23 _ _ e)
        refine ⟨D, _, _, rfl, rfl, hDl', ?_, ?_⟩
        · rw [List.length_map, paired_len hDp]
          have l1 : (Wt rs tl).1.length ≤ tl.length := wk_len rs (tl ++ [35]) tl.length 1
          rw [hW] at l1
          simp at l1
          exact small1000 (by omega)
        · have kR : Same H3 (upd (upd H3 t (.tup [.int ((i : Int) - 1), .int (k : Nat)])) D (.lst (ts.map V.ref ++ [.ref t]))) → True := fun _ => trivial
          have atR := sall _ _ hRt
          have ata := sall _ _ hat
          refine ⟨_, rfl, _, rfl, _, rfl, R, _, (k : Int), .ref a, rfl, rfl, .inl (.inl atR), atI_nat (by rw [List.getElem?_map, ha]; rfl), a, _, 1, .str (T rs[k].ow), rfl, rfl, .inl (.inl ata), atI_nat (j := 1) rfl, _, rfl, (by rw [T_len]; have := hm2.o2; exact small (by omega)), _, _, rfl, rfl, ?_⟩
          refine ⟨i + rs[k].ow.length, acc ++ [(i - 1, k)], some (.int (k : Nat)), ?_, by omega, by have := hm2.o1; omega, sall, ?_, ?_⟩
          · have ee : ((i + rs[k].ow.length : Nat) : Int) = (i : Int) + ((T rs[k].ow).length : Int) := by rw [T_len]; omega
            rw [ee]
            rfl
          · refine ⟨ts ++ [t], by rw [upd_same, List.map_append]; rfl, paired_app (paired_mono (fun t' s h => ?_) hDp) (.cons ?_ .nil)⟩
            · rw [upd_ne (ne_of h hDl (by intro z; cases z))]
              exact sm _ _ h
            · rw [upd_ne (ne_of_none hDl ht).symm, upd_same]
              show some (HO.tup [V.int ((i : Int) - 1), V.int (k : Nat)]) = some (HO.tup [V.int ((i - 1 : Nat) : Int), V.int (k : Nat)])
              rw [show ((i - 1 : Nat) : Int) = (i : Int) - 1 by omega]
          · rw [hW, er, List.append_assoc]
            rfl
    · have c' : ¬ (i : Int) < ((T (tl ++ [35])).length : Int) - 1 := of_decide_eq_false (Bool.eq_false_iff.mpr c)
      rw [zl] at c'
      rw [wk_end rs (tl ++ [35]) m i (by rw [len1]; omega)] at hW
      refine ⟨_, rfl, (by show 2 ≤ sizeLine; decide), fun t ht => ?_⟩
      have sm := same_new ht (.tup [.ref D, .non])
      refine q t D _ (s2.trans sm) hD ?_ ?_
      · rw [upd_same, hW]
        rfl
      · rw [hW, List.append_nil]
        exact hS.same sm
def LWAt (H : Hp) (t : Addr) (q : List (Nat × Nat) × Option Nat) : Prop := match q.2 with
  | some p => H t = some (.tup [.str (Str.ofString "unsaid"), .int (p : Nat)])
  | none => ∃ D, H t = some (.tup [.str (T []), .ref D]) ∧ StepsAt H D q.1
theorem LWAt.same {H H' : Hp} {t : Addr} {q : List (Nat × Nat) × Option Nat} (h : LWAt H t q) (e : Same H H') : LWAt H' t q := by
  obtain ⟨l, o⟩ := q
  cases o with
  | some p => exact e _ _ h
  | none =>
    obtain ⟨D', h1, h2⟩ := h
    exact ⟨D', e _ _ h1, h2.same e⟩
end
end Say
namespace Say
open PySem PySem.Spec PyProof.Rows L2
/-- the sounds of the rules of these numbers -/
def soL (rs : List Rule) (ks : List Nat) : List Nat := (ks.map fun k => (ruleAt rs k).so).flatten
/-- how rules say a word -/
def sayW (rs : List Rule) (wd : List Nat) : Option (List Nat) := if (W rs wd).2 = none then some (soL rs ((W rs wd).1.map (·.2))) else none
def optT : Option (List Nat) → V
  | none => .non
  | some s => .str (T s)
/-- how a book says a word -/
def saidM (rs : List Rule) (es : List Exc) (wd : List Nat) : Option (List Nat) := match es.find? fun e => decide (e.1 = wd) with
  | some e => some e.2
  | none => sayW rs wd
theorem sum_T : ∀ ls : List (List Nat), ((ls.map T).map fun z : Str => z.length).sum = ls.flatten.length
  | [] => rfl
  | l :: r => by
    show (T l).length + ((r.map T).map fun z : Str => z.length).sum = (l ++ r.flatten).length
    rw [sum_T r, T_len, List.length_append]
theorem flat_len {rs : List Rule} (h : ∀ ρ ∈ rs, RlOk ρ) : ∀ ks : List Nat, (∀ k ∈ ks, k < rs.length) → (soL rs ks).length ≤ 3 * ks.length
  | [], _ => Nat.zero_le _
  | k :: r, hk => by
    have ih := flat_len h r fun j hj => hk j (List.mem_cons_of_mem _ hj)
    have hl := hk k (List.mem_cons_self ..)
    have e : ruleAt rs k = rs[k] := ruleAt_eq (List.getElem?_eq_getElem hl)
    have h3 := (h _ (List.getElem_mem hl)).s3
    show ((ruleAt rs k).so ++ soL rs r).length ≤ 3 * (r.length + 1)
    rw [List.length_append, e]
    omega
theorem wk_lt {rs : List Rule} {z : List Nat} : ∀ (m i : Nat), ∀ s ∈ (wk rs z m i).1, s.2 < rs.length
  | 0, _, s, h => by cases h
  | m + 1, i, s, h => by
    by_cases c : i < z.length - 1
    · cases e : ff rs z i with
      | none => rw [wk_none c e] at h; cases h
      | some k =>
        rw [wk_some c e] at h
        rcases List.mem_cons.mp h with rfl | h
        · exact ff_lt e
        · exact wk_lt m _ s h
    · rw [wk_end rs z _ i c] at h
      cases h
section
variable {P : Program} {w : World} {K : PySem.W.Frag} {mg : Str → Option Value} {base : Heap}
abbrev sNum : Stmt := topS 33
theorem scNum : FnScope ["steps", "_", "number"] ["steps"] (defScope sNum) := ⟨rfl, rfl, rfl, by decide +kernel, rfl, by decide +kernel, by decide +kernel⟩
def spNum : Sp := fun vs H Q _ => ∃ (D : Addr) (ss : List (Nat × Nat)), vs = [.ref D] ∧ StepsAt H D ss ∧ ss.length ≤ 200 ∧ ∀ (D' : Addr) (H' : Hp), Same H H' → H D' = none → H' D' = some (.lst (ss.map fun s => V.int (s.2 : Nat))) → Q (.ref D') H'
theorem ok_num {f : Addr} {fd : FuncData} {k : Nat} (F : Fun K "numbers_of" "numbers_of" sNum f fd) : FnOk P w K mg base CX0 (k + 1) f fd ["steps"] spNum := by
  refine F.ok scNum (fun vs H Q E h => ?_) (fun cdv A outer s H vs Q E hr h => ?_)
  · obtain ⟨D, ss, rfl, _⟩ := h
    rfl
  · obtain ⟨D, ss, rfl, ⟨ts, hD, hp⟩, hl, q⟩ := h
    refine ⟨_, pss_one (ps_ret (pe_lc (own := [("_", 1), ("number", 2)]) (g := gTup K 2 (gCons (gName 1) (gCons (gName 2) gNil))) rfl scNum.nd (pi_list (pv 0))
        (blkOk_by (N := ["steps", "_", "number"]) (sc := defScope sNum) (by decide +kernel)) (fun _ _ _ _ _ => pg_tup (by rfl) (pgs_cons (pg_name (i := 1) scNum.nd rfl (.inl rfl)) (pgs_cons (pg_name (i := 2) scNum.nd rfl (.inl rfl)) pgs_nil)))
        (fun _ _ _ _ _ => pts_nil) (fun _ _ _ _ _ => pv 2))), ?_⟩
    refine ⟨_, rfl, D, rfl, ⟨_, .inl (.inl hD)⟩, fun D' hD' => ?_⟩
    refine lc_it (walk_list (xs := ts.map V.ref)) (fun i H2 => H2 D' = some (.lst ((ss.take i).map fun s => V.int (s.2 : Nat))) ∧ Same H H2) ?_ (fun i H2 _ h => .inl (.inl (h.2 _ _ hD))) ?_ ?_
    · exact ⟨upd_same, same_new hD' _⟩
    · rintro i x H2 H2' hi ⟨e1, e2⟩ ⟨rfl, hx⟩
      rw [List.getElem?_map] at hx
      obtain ⟨a, ha, e⟩ := Option.map_eq_some_iff.mp hx
      subst e
      obtain ⟨st, hst, hat⟩ := paired_at hp ha
      have hi2 : i < ss.length := (List.getElem?_eq_some_iff.mp hst).1
      refine ⟨a, _, rfl, .inl (.inl (e2 _ _ hat)), rfl, _, _, rfl, _, _, rfl, rfl, ?_⟩
      refine ⟨rfl, _, rfl, _, e1, ?_, ?_, ?_⟩
      · rw [List.length_map, List.length_take]
        exact small1000 (by omega)
      · rw [upd_same, List.take_add_one, hst, List.map_append]
        rfl
      · exact fun b u q => by
          rw [upd_ne (ne_of_none q hD')]
          exact e2 b u q
    · rintro H2 ⟨e1, e2⟩
      rw [List.length_map, paired_len hp, List.take_length] at e1
      exact q D' H2 e2 hD' e1
end
end Say
namespace Say
open PySem PySem.Spec PyProof.Rows L2
section
variable {P : Program} {w : World} {K : PySem.W.Frag} {mg : Str → Option Value} {base : Heap}
abbrev sSou : Stmt := topS 34
theorem scSou : FnScope ["rules", "numbers", "number"] ["rules", "numbers"] (defScope sSou) := ⟨rfl, rfl, rfl, by decide +kernel, rfl, by decide +kernel, by decide +kernel⟩
def spSou : Sp := fun vs H Q _ => ∃ (R D : Addr) (rs : List Rule) (ks : List Nat), vs = [.ref R, .ref D] ∧ RulesAt H R rs ∧ (∀ ρ ∈ rs, RlOk ρ) ∧ H D = some (.lst (ks.map fun k => V.int (k : Nat))) ∧ (∀ k ∈ ks, k < rs.length) ∧ ks.length ≤ 200 ∧
  ∀ (H' : Hp), Same H H' → Q (.str (T (soL rs ks))) H'
theorem ok_sou {f : Addr} {fd : FuncData} {k : Nat} (F : Fun K "sounds_of" "sounds_of" sSou f fd) (cS : KI mg "SOUNDS" 3) : FnOk P w K mg base CX0 (k + 1) f fd ["rules", "numbers"] spSou := by
  obtain ⟨tS, mS⟩ := cS
  refine F.ok scSou (fun vs H Q E h => ?_) (fun cdv A outer s H vs Q E hr h => ?_)
  · obtain ⟨R, D, rs, ks, rfl, _⟩ := h
    rfl
  · obtain ⟨R, D, rs, ks, rfl, ⟨rts, hR, hRp⟩, ho, hD, hk, hl, q⟩ := h
    refine ⟨_, pss_one (ps_ret (pe_join pe_str (pe_lc (own := [("number", 2)]) (g := gName 2) (te := tOp (rIxT K) (tOp (rIxT K) (tVar 0) (tVar 2)) (tC (.int 3))) rfl scSou.nd (pi_list (pv 1))
        (blkOk_by (N := ["rules", "numbers", "number"]) (sc := defScope sSou) (by decide +kernel)) (fun _ _ _ _ _ => pg_name (i := 2) scSou.nd rfl (.inl rfl))
        (fun _ _ _ _ _ => pts_nil) (fun _ _ _ _ _ => pe_ix ix_tup (pe_ix ix_tup (pv 0) (pv 2) (fun _ _ => rfl)) (pe_glob (v := .int 3) rfl mS ⟨_, rfl⟩) (fun _ _ => rfl))))), ?_⟩
    refine ⟨⟨_, rfl⟩, _, rfl, D, rfl, ⟨_, .inl (.inl hD)⟩, fun D' hD' => ?_⟩
    refine lc_it (walk_list (xs := ks.map fun k => V.int (k : Nat))) (fun i H2 => H2 D' = some (.lst ((((ks.take i).map fun k => (ruleAt rs k).so).map T).map V.str)) ∧ Same H H2) ?_ (fun i H2 _ h => .inl (.inl (h.2 _ _ hD))) ?_ ?_
    · exact ⟨upd_same, same_new hD' _⟩
    · rintro i x H2 H2' hi ⟨e1, e2⟩ ⟨rfl, hx⟩
      rw [List.getElem?_map] at hx
      obtain ⟨j, hj, e⟩ := Option.map_eq_some_iff.mp hx
      subst e
      have hjl := hk j (List.mem_of_getElem? hj)
      have hi2 : i < ks.length := (List.getElem?_eq_some_iff.mp hj).1
      obtain ⟨a, ha, hat⟩ := paired_at' hRp (List.getElem?_eq_getElem hjl)
      have er : ruleAt rs j = rs[j] := ruleAt_eq (List.getElem?_eq_getElem hjl)
      refine ⟨rfl, ?_⟩
      refine ⟨_, rfl, _, rfl, R, _, (j : Int), .ref a, rfl, rfl, .inl (.inl (e2 _ _ hR)), atI_nat (by rw [List.getElem?_map, ha]; rfl), a, _, 3, .str (T rs[j].so), rfl, rfl, .inl (.inl (e2 _ _ hat)), atI_nat (j := 3) rfl, _, e1, ?_, ?_, ?_⟩
      · rw [List.length_map, List.length_map, List.length_map, List.length_take]
        exact small1000 (by omega)
      · rw [upd_same, List.take_add_one, hj]
        simp only [Option.toList_some, List.map_append, List.map_cons, List.map_nil, er]
      · exact fun b u q => by
          rw [upd_ne (ne_of_none q hD')]
          exact e2 b u q
    · rintro H2 ⟨e1, e2⟩
      rw [List.length_map, List.take_length] at e1
      refine ⟨Str.ofString "", D', (ks.map fun k => (ruleAt rs k).so).map T, rfl, rfl, .inl (.inl (.inl e1)), ?_, ?_⟩
      · rw [sum_T]
        have := flat_len ho ks hk
        show (soL rs ks).length + _ * 0 ≤ _
        omega
      · rw [show Str.ofString "" = T [] from nil_eq, join_nil]
        exact q H2 e2
end
end Say
namespace Say
open PySem PySem.Spec PyProof.Rows L2
section
variable {P : Program} {w : World} {K : PySem.W.Frag} {mg : Str → Option Value} {base : Heap}
abbrev sEnd : Stmt := topS 30
theorem scEnd : FnScope ["rules", "tail", "steps", "stuck"] ["rules", "tail"] (defScope sEnd) := ⟨rfl, rfl, rfl, by decide +kernel, rfl, by decide +kernel, by decide +kernel⟩
/-- the numbers by which a tail is said -/
def endM (rs : List Rule) : Option (List Nat) → Option (List Nat)
  | none => none
  | some t => if (Wt rs t).2 = none then some ((Wt rs t).1.map (·.2)) else none
def ensM (rs : List Rule) (tl : Option (List Nat)) : Option (List Nat) := (endM rs tl).map (soL rs)
theorem sayW_ens (rs : List Rule) (wd : List Nat) : sayW rs wd = ensM rs (some (35 :: wd)) := by
  unfold sayW ensM endM
  rw [W_Wt]
  by_cases c : (Wt rs (35 :: wd)).2 = none
  · rw [if_pos c]
    simp only [c, if_true, Option.map_some]
  · rw [if_neg c]
    simp only [c, if_false, Option.map_none]
def EndV (H : Hp) (v : V) : Option (List Nat) → Prop
  | none => v = .non
  | some ks => ∃ D, v = .ref D ∧ H D = some (.lst (ks.map fun k => V.int (k : Nat)))
/-- a tail, not long -/
def TlOk (tl : Option (List Nat)) : Prop := ∀ t, tl = some t → 1 ≤ t.length ∧ t.length ≤ 81
def spEnd : Sp := fun vs H Q _ => ∃ (R : Addr) (rs : List Rule) (tl : Option (List Nat)), vs = [.ref R, optT tl] ∧ RulesAt H R rs ∧ (∀ ρ ∈ rs, RlOk ρ) ∧ TlOk tl ∧
  ∀ (v : V) (H' : Hp), Same H H' → EndV H' v (endM rs tl) → Q v H'
theorem ok_end {f : Addr} {fd : FuncData} (F : Fun K "ending" "ending" sEnd f fd) (DS : Df P w K mg base "steps_of" ["rules", "tail"] 3 spSt) (DN : Df P w K mg base "numbers_of" ["steps"] 1 spNum) : FnOk P w K mg base CX0 4 f fd ["rules", "tail"] spEnd := by
  obtain ⟨fS, fdS, GS, kS, bS, mS⟩ := DS
  obtain ⟨fN, fdN, GN, kN, bN, mN⟩ := DN
  refine F.ok scEnd (fun vs H Q E h => ?_) (fun cdv A outer s H vs Q E hr h => ?_)
  · obtain ⟨R, rs, tl, rfl, _⟩ := h
    rfl
  · obtain ⟨R, rs, tl, rfl, hR, ho, hw, q⟩ := h
    have hr1 : Room 1 _ := hr.mono (by decide)
    refine ⟨_, pss_cons (ps_if (pt_cmpR op_isN (pv 1) pe_non (nomark _)) (pss_one (ps_ret pe_non)) pss_nil)
      (pss_cons (ps_asg (pe_call GS hr (by rfl) mS kS bS .nil pass0 (pa_cons (pv 0) (pa_cons (pv 1) pa_nil))) (pg_tup (by rfl) (pgs_cons (pg_name (i := 2) scEnd.nd rfl (.inl rfl)) (pgs_cons (pg_name (i := 3) scEnd.nd rfl (.inl rfl)) pgs_nil))))
      (pss_cons (ps_if (pt_cmpR op_notN (pv 3) pe_non (nomark _)) (pss_one (ps_ret pe_non)) pss_nil)
      (pss_one (ps_ret (pe_call GN hr1 (by rfl) mN kN bN .nil pass0 (pa_cons (pv 2) pa_nil)))))), ?_⟩
    cases tl with
    | none =>
      refine ⟨_, rfl, rfl, _, rfl, iteT ?_⟩
      exact q _ H (Same.refl H) rfl
    | some tl =>
    obtain ⟨h1, h81⟩ := hw tl rfl
    refine ⟨_, rfl, rfl, _, rfl, ?_⟩
    rw [show decide (optT (some tl) = V.non) = false from decide_eq_false (fun z => by cases z)]
    refine iteF ?_
    refine ⟨_, rfl, _, rfl, R, rs, tl, rfl, hR, ho, h1, h81, fun t D H1 s1 hD ht hS => ?_⟩
    refine ⟨t, _, rfl, .inl (.inl ht), rfl, _, _, rfl, _, _, rfl, rfl, ?_⟩
    refine ⟨_, rfl, rfl, _, rfl, ?_⟩
    simp only [endM] at q
    cases e : (Wt rs tl).2 with
    | some p =>
      rw [e, if_neg (fun z => by cases z)] at q
      rw [show decide (optI (some p) = V.non) = false from decide_eq_false (fun z => by cases z)]
      refine iteT ?_
      exact q _ H1 s1 rfl
    | none =>
      rw [e, if_pos rfl] at q
      refine iteF ?_
      have hl : (Wt rs tl).1.length ≤ tl.length := wk_len rs (tl ++ [35]) tl.length 1
      refine ⟨_, rfl, D, _, rfl, hS, by omega, fun D' H2 s2 _ h2 => ?_⟩
      refine q _ H2 (s1.trans s2) ⟨D', rfl, ?_⟩
      rw [h2, List.map_map]
      rfl
end
end Say
namespace Say
open PySem PySem.Spec PyProof.Rows L2
section
variable {P : Program} {w : World} {K : PySem.W.Frag} {mg : Str → Option Value} {base : Heap}
abbrev sEnS : Stmt := topS 31
theorem scEnS : FnScope ["rules", "tail", "numbers"] ["rules", "tail"] (defScope sEnS) := ⟨rfl, rfl, rfl, by decide +kernel, rfl, by decide +kernel, by decide +kernel⟩
def spEnS : Sp := fun vs H Q _ => ∃ (R : Addr) (rs : List Rule) (tl : Option (List Nat)), vs = [.ref R, optT tl] ∧ RulesAt H R rs ∧ (∀ ρ ∈ rs, RlOk ρ) ∧ TlOk tl ∧
  ∀ (H' : Hp), Same H H' → Q (optT (ensM rs tl)) H'
theorem end_ks {rs : List Rule} {tl : Option (List Nat)} {ks : List Nat} (h : endM rs tl = some ks) (hw : TlOk tl) : (∀ k ∈ ks, k < rs.length) ∧ ks.length ≤ 81 := by
  cases tl with
  | none => cases h
  | some t =>
    unfold endM at h
    by_cases c : (Wt rs t).2 = none
    · simp only [c, if_true] at h
      cases h
      refine ⟨fun k hk => ?_, ?_⟩
      · obtain ⟨st, hst, rfl⟩ := List.mem_map.mp hk
        exact wk_lt _ _ st hst
      · have hl : (Wt rs t).1.length ≤ t.length := wk_len rs (t ++ [35]) t.length 1
        have := (hw t rfl).2
        rw [List.length_map]
        omega
    · simp only [c, if_false] at h
      cases h
theorem ok_enS {f : Addr} {fd : FuncData} (F : Fun K "ending_sounds" "ending_sounds" sEnS f fd) (DE : Df P w K mg base "ending" ["rules", "tail"] 4 spEnd) (DN : Df P w K mg base "sounds_of" ["rules", "numbers"] 1 spSou) : FnOk P w K mg base CX0 5 f fd ["rules", "tail"] spEnS := by
  obtain ⟨fS, fdS, GS, kS, bS, mS⟩ := DE
  obtain ⟨fN, fdN, GN, kN, bN, mN⟩ := DN
  refine F.ok scEnS (fun vs H Q E h => ?_) (fun cdv A outer s H vs Q E hr h => ?_)
  · obtain ⟨R, rs, tl, rfl, _⟩ := h
    rfl
  · obtain ⟨R, rs, tl, rfl, hR, ho, hw, q⟩ := h
    have hr1 : Room 1 _ := hr.mono (by decide)
    refine ⟨_, pss_cons (ps_set (i := 2) scEnS.nd rfl (.inl rfl) (pe_call GS hr (by rfl) mS kS bS .nil pass0 (pa_cons (pv 0) (pa_cons (pv 1) pa_nil))))
      (pss_cons (ps_if (pt_cmpR op_isN (pv 2) pe_non (nomark _)) (pss_one (ps_ret pe_non)) pss_nil)
      (pss_one (ps_ret (pe_call GN hr1 (by rfl) mN kN bN .nil pass0 (pa_cons (pv 0) (pa_cons (pv 2) pa_nil)))))), ?_⟩
    refine ⟨_, rfl, _, rfl, R, rs, tl, rfl, hR, ho, hw, fun v H1 s1 hv => ?_⟩
    unfold ensM at q
    cases e : endM rs tl with
    | none =>
      rw [e] at hv q
      cases hv
      refine ⟨_, rfl, rfl, _, rfl, iteT ?_⟩
      exact q H1 s1
    | some ks =>
      rw [e] at hv q
      obtain ⟨D, rfl, hD⟩ := hv
      obtain ⟨hk, hl⟩ := end_ks e hw
      refine ⟨_, rfl, rfl, _, rfl, ?_⟩
      rw [show decide (V.ref D = V.non) = false from decide_eq_false (fun z => by cases z)]
      refine iteF ?_
      exact ⟨_, rfl, _, rfl, R, D, rs, ks, rfl, hR.kt (.of s1), ho, hD, hk, by omega, fun H2 s2 => q H2 (s1.trans s2)⟩
end
end Say
namespace Say
open PySem PySem.Spec PyProof.Rows L2
section
variable {P : Program} {w : World} {K : PySem.W.Frag} {mg : Str → Option Value} {base : Heap}
abbrev sWS : Stmt := topS 32
theorem scWS : FnScope ["rules", "word"] ["rules", "word"] (defScope sWS) := ⟨rfl, rfl, rfl, by decide +kernel, rfl, by decide +kernel, by decide +kernel⟩
def spWS : Sp := fun vs H Q _ => ∃ (R : Addr) (rs : List Rule) (wd : List Nat), vs = [.ref R, .str (T wd)] ∧ RulesAt H R rs ∧ (∀ ρ ∈ rs, RlOk ρ) ∧ wd.length ≤ 80 ∧
  ∀ (H' : Hp), Same H H' → Q (optT (sayW rs wd)) H'
theorem ok_WS {f : Addr} {fd : FuncData} (F : Fun K "word_sounds" "word_sounds" sWS f fd) (C : Cn mg) (DE : Df P w K mg base "ending_sounds" ["rules", "tail"] 5 spEnS) : FnOk P w K mg base CX0 6 f fd ["rules", "word"] spWS := by
  obtain ⟨fE, fdE, GE, kE, bE, mE⟩ := DE
  obtain ⟨tE, mG⟩ := C.edge
  refine F.ok scWS (fun vs H Q E h => ?_) (fun cdv A outer s H vs Q E hr h => ?_)
  · obtain ⟨R, rs, wd, rfl, _⟩ := h
    rfl
  · obtain ⟨R, rs, wd, rfl, hR, ho, hw, q⟩ := h
    refine ⟨_, pss_one (ps_ret (pe_call GE hr (by rfl) mE kE bE .nil pass0 (pa_cons (pv 0) (pa_cons (pe_op op_add_str (pe_glob (v := .str "#") rfl mG ⟨_, rfl⟩) (pv 1)) pa_nil)))), ?_⟩
    exact ⟨_, rfl, _, rfl, _, _, rfl, rfl, (by rw [len_hash, T_len]; exact small (by omega)), R, rs, some (35 :: wd), (by rw [hash_app]; rfl), hR, ho, (fun t e => by cases e; exact ⟨by simp, by simp; omega⟩), fun H1 s1 => by have := q H1 s1; rw [sayW_ens] at this; exact this⟩
end
end Say
namespace Say
open PySem PySem.Spec PyProof.Rows L2
/-- the list at S holds samples -/
def SampsAt (H : Hp) (S : Addr) (ss : List Exc) : Prop := ∃ ts : List Addr, H S = some (.lst (ts.map V.ref)) ∧ Paired (fun t (e : Exc) => H t = some (.tup [.str (T e.1), .str (T e.2)])) ts ss
theorem SampsAt.same {H H' : Hp} {S : Addr} {ss : List Exc} (h : SampsAt H S ss) (e : Same H H') : SampsAt H' S ss := by
  obtain ⟨ts, h1, h2⟩ := h
  exact ⟨ts, e _ _ h1, paired_mono (fun t ρ q => e _ _ q) h2⟩
theorem eqO {o : Option (List Nat)} {b : List Nat} : decide (optT o = V.str (T b)) = decide (o = some b) := by
  cases o with
  | none => rw [decide_eq_false (fun z => by cases z), decide_eq_false (fun z => by cases z)]
  | some a => exact decide_eq_decide.mpr ⟨fun z => by rw [T_inj (V.str.inj z)], fun z => by cases z; rfl⟩
section
variable {P : Program} {w : World} {K : PySem.W.Frag} {mg : Str → Option Value} {base : Heap}
abbrev sIsSaid : Stmt := topS 41
theorem scIsSaid : FnScope ["rules", "sample", "word", "sounds"] ["rules", "sample"] (defScope sIsSaid) := ⟨rfl, rfl, rfl, by decide +kernel, rfl, by decide +kernel, by decide +kernel⟩
def spIsSaid : Sp := fun vs H Q _ => ∃ (R t : Addr) (rs : List Rule) (e : Exc), vs = [.ref R, .ref t] ∧ RulesAt H R rs ∧ (∀ ρ ∈ rs, RlOk ρ) ∧ H t = some (.tup [.str (T e.1), .str (T e.2)]) ∧ e.1.length ≤ 80 ∧
  ∀ (H' : Hp), Same H H' → Q (.bl (decide (sayW rs e.1 = some e.2))) H'
theorem ok_isSaid {f : Addr} {fd : FuncData} (F : Fun K "is_said" "is_said" sIsSaid f fd) (DE : Df P w K mg base "word_sounds" ["rules", "word"] 6 spWS) : FnOk P w K mg base CX0 7 f fd ["rules", "sample"] spIsSaid := by
  obtain ⟨fE, fdE, GE, kE, bE, mE⟩ := DE
  refine F.ok scIsSaid (fun vs H Q E h => ?_) (fun cdv A outer s H vs Q E hr h => ?_)
  · obtain ⟨R, t, rs, e, rfl, _⟩ := h
    rfl
  · obtain ⟨R, t, rs, e, rfl, hR, ho, ht, hw, q⟩ := h
    refine ⟨_, pss_cons (ps_asg (pv 1) (pg_tup (by rfl) (pgs_cons (pg_name (i := 2) scIsSaid.nd rfl (.inl rfl)) (pgs_cons (pg_name (i := 3) scIsSaid.nd rfl (.inl rfl)) pgs_nil))))
      (pss_one (ps_ret (pe_cmpR op_eq (pe_call GE hr (by rfl) mE kE bE .nil pass0 (pa_cons (pv 0) (pa_cons (pv 2) pa_nil))) (pv 3) (nomark _)))), ?_⟩
    refine ⟨_, rfl, t, _, rfl, .inl (.inl ht), rfl, _, _, rfl, _, _, rfl, rfl, ?_⟩
    refine ⟨_, rfl, _, rfl, R, rs, e.1, rfl, hR, ho, hw, fun H1 s1 => ?_⟩
    have hsc : scal (optT (sayW rs e.1)) (V.str (T e.2)) = true := by
      cases sayW rs e.1 <;> rfl
    refine ⟨_, rfl, hsc, ?_⟩
    have := q H1 s1
    rw [← eqO] at this
    exact this
abbrev sChS : Stmt := topS 39
theorem scChS : FnScope ["letters", "samples", "number", "sample"] ["letters", "samples"] (defScope sChS) := ⟨rfl, rfl, rfl, by decide +kernel, rfl, by decide +kernel, by decide +kernel⟩
def spChS : Sp := fun vs H Q _ => ∃ (L : List Nat) (S : Addr) (ss : List Exc), vs = [.str (T L), .ref S] ∧ SampsAt H S ss ∧ (∀ e ∈ ss, ExcOk L e) ∧ ss.length ≤ 12 ∧ ∀ (H' : Hp), Same H H' → Q .non H'
theorem ok_chS {f : Addr} {fd : FuncData} (F : Fun K "check_samples" "check_samples" sChS f fd) (B : Bn mg) (cM : KI mg "MOST_SAMPLES" 12) (DI : Df P w K mg base "is_exception" ["letters", "pair"] 3 spIsExc) :
    FnOk P w K mg base CX0 4 f fd ["letters", "samples"] spChS := by
  obtain ⟨fI, fdI, GI, kI, bI, mI⟩ := DI
  obtain ⟨tS, mS⟩ := cM
  refine F.ok scChS (fun vs H Q E h => ?_) (fun cdv A outer s H vs Q E hr h => ?_)
  · obtain ⟨L, S, ss, rfl, _⟩ := h
    rfl
  · obtain ⟨L, S, ss, rfl, ⟨ts, hS, hp⟩, ho, h12, q⟩ := h
    refine ⟨_, pss_cons (ps_if (pt_not (pt_val (pe_callB call_isi (by rfl) B.isi (by decide +kernel) (pa_cons (pv 1) (pa_cons (pe_bltn (v := .ty "list") rfl B.lst (by decide +kernel) rfl) pa_nil))))) (pss_one ps_never) pss_nil)
      (pss_one (ps_for PassesOwn.never rfl (pi_enum (by rfl) B.enu (pa_cons (pv 1) pa_nil)) (pg_tup (by rfl) (pgs_cons (pg_name (i := 2) scChS.nd rfl (.inl rfl)) (pgs_cons (pg_name (i := 3) scChS.nd rfl (.inl rfl)) pgs_nil)))
        (pss_one (ps_if (PW.pt (pw_or (pt_cmpR op_eq (pv 2) (pe_glob (v := .int 12) rfl mS ⟨_, rfl⟩) (nomark _)) (pw_or1 (pt_not (pt_val (pe_call GI hr (by rfl) mI kI bI .nil pass0 (pa_cons (pv 0) (pa_cons (pv 3) pa_nil)))))))) (pss_one ps_never) pss_nil)))), ?_⟩
    refine ⟨_, rfl, _, _, .type "list", _, true, rfl, ClsV.ty _, .base (.lst hS), kit_ty (by decide +kernel), true, rfl, iteF ?_⟩
    refine ⟨_, rfl, S, _, rfl, .inl (.inl hS), for_it (walk_enum (xs := ts.map V.ref)) (fun i σ H2 => Same H H2 ∧ ∃ v2 v3, σ = [some (.str (T L)), some (.ref S), v2, v3]) ⟨Same.refl H, _, _, rfl⟩ (fun i σ H2 _ h => .inl (.inl (h.1 _ _ hS))) ?_ ?_⟩
    · rintro i x σ H2 H3 hi ⟨s2, v2, v3, rfl⟩ ⟨t, x1, x2, rfl, ht, rfl, g1, g2⟩
      cases g1
      have g2 : (ts.map V.ref)[i]? = some x2 := g2
      rw [List.getElem?_map] at g2
      obtain ⟨a, ha, e⟩ := Option.map_eq_some_iff.mp g2
      subst e
      obtain ⟨e, he, hat⟩ := paired_at hp ha
      have sm := same_new ht (.tup [.int (i : Nat), .ref a])
      have hi2 : i < ss.length := (List.getElem?_eq_some_iff.mp he).1
      refine ⟨t, _, rfl, .inl (.inl upd_same), rfl, _, _, rfl, _, _, rfl, rfl, ?_⟩
      refine ⟨_, rfl, rfl, _, rfl, ?_⟩
      have nq : ¬ V.int ((i : Nat) : Int) = V.int 12 := fun z => by
        have := V.int.inj z
        omega
      rw [decide_eq_false nq]
      refine iteF ?_
      refine ⟨_, rfl, _, rfl, L, a, e, rfl, sm _ _ (s2 _ _ hat), ho e (List.mem_of_getElem? he), fun H4 s4 => ?_⟩
      exact ⟨true, rfl, iteF ⟨s2.trans (sm.trans s4), _, _, rfl⟩⟩
    · rintro σ H2 ⟨s2, v2, v3, rfl⟩
      exact q H2 s2
abbrev sChA : Stmt := topS 38
theorem scChA : FnScope ["letters", "rules", "samples"] ["letters", "rules", "samples"] (defScope sChA) := ⟨rfl, rfl, rfl, by decide +kernel, rfl, by decide +kernel, by decide +kernel⟩
def spChA : Sp := fun vs H Q _ => ∃ (L : List Nat) (R S : Addr) (rs : List Rule) (ss : List Exc), vs = [.str (T L), .ref R, .ref S] ∧ LetOk L ∧ RulesAt H R rs ∧ (∀ ρ ∈ rs, RuleOk L ρ) ∧ rs.length ≤ 12 ∧ SampsAt H S ss ∧ (∀ e ∈ ss, ExcOk L e) ∧ ss.length ≤ 12 ∧ ∀ (H' : Hp), Same H H' → Q .non H'
theorem ok_chA {f : Addr} {fd : FuncData} (F : Fun K "check_all" "check_all" sChA f fd) (DL : Df P w K mg base "check_letters" ["letters"] 2 spChL) (DR : Df P w K mg base "check_rules" ["letters", "rules"] 4 spChR)
    (DS : Df P w K mg base "check_samples" ["letters", "samples"] 4 spChS) : FnOk P w K mg base CX0 5 f fd ["letters", "rules", "samples"] spChA := by
  obtain ⟨fL, fdL, GL, kL, bL, mL⟩ := DL
  obtain ⟨fR, fdR, GR, kR, bR, mR⟩ := DR
  obtain ⟨fS, fdS, GS, kS, bS, mS⟩ := DS
  refine F.ok scChA (fun vs H Q E h => ?_) (fun cdv A outer s H vs Q E hr h => ?_)
  · obtain ⟨L, R, S, rs, ss, rfl, _⟩ := h
    rfl
  · obtain ⟨L, R, S, rs, ss, rfl, hL, hR, ho, h12, hS, hs, s12, q⟩ := h
    refine ⟨_, pss_cons (ps_expr (pe_call GL (hr.mono (by decide)) (by rfl) mL kL bL .nil pass0 (pa_cons (pv 0) pa_nil)))
      (pss_cons (ps_expr (pe_call GR hr (by rfl) mR kR bR .nil pass0 (pa_cons (pv 0) (pa_cons (pv 1) pa_nil))))
      (pss_one (ps_expr (pe_call GS hr (by rfl) mS kS bS .nil pass0 (pa_cons (pv 0) (pa_cons (pv 2) pa_nil)))))), ?_⟩
    refine ⟨_, rfl, L, rfl, hL, fun H1 s1 => ?_⟩
    refine ⟨_, rfl, _, rfl, L, R, rs, rfl, hL, hR.kt (.of s1), ho, h12, fun H2 s2 => ?_⟩
    refine ⟨_, rfl, _, rfl, L, S, ss, rfl, hS.same (s1.trans s2), hs, s12, fun H3 s3 => ?_⟩
    exact q H3 (s1.trans (s2.trans s3))
end
end Say
/-! rules in a list; written by k18/genlist.py -/
namespace Say
open PySem PySem.Spec PyProof.Rows L2
def RulesAtL (H : Hp) (R : Addr) (rs : List Rule) : Prop := ∃ ts : List Addr, H R = some (.lst (ts.map V.ref)) ∧ Paired (fun t ρ => H t = some (.tup (Rule.vs ρ))) ts rs
theorem RulesAtL.same {H H' : Hp} {R : Addr} {rs : List Rule} (h : RulesAtL H R rs) (e : Same H H') : RulesAtL H' R rs := by
  obtain ⟨ts, h1, h2⟩ := h
  exact ⟨ts, e _ _ h1, paired_mono (fun t ρ q => e _ _ q) h2⟩
section
variable {P : Program} {w : World} {K : PySem.W.Frag} {mg : Str → Option Value} {base : Heap}
def spFFL : Sp := fun vs H Q _ => ∃ (R : Addr) (rs : List Rule) (z : List Nat) (i : Nat), vs = [.ref R, .str (T z), .int i] ∧ RulesAtL H R rs ∧ (∀ ρ ∈ rs, RlOk ρ) ∧ 1 ≤ i ∧ i ≤ z.length ∧ z.length ≤ 100 ∧ (∀ ρ ∈ rs, RoomAt ρ z i) ∧
  ∀ H', Same H H' → Q (optI (ff rs z i)) H'
theorem ok_FFL {f : Addr} {fd : FuncData} (F : Fun K "first_fit" "first_fit" sFF f fd) (B : Bn mg) (DF : Df P w K mg base "fits" ["rule", "signs", "at"] 1 spFits) : FnOk P w K mg base CX0 2 f fd ["rules", "signs", "at"] spFFL := by
  obtain ⟨fF, fdF, GF, kF, bF, mF⟩ := DF
  refine F.ok scFF (fun vs H Q E h => ?_) (fun cdv A outer s H vs Q E hr h => ?_)
  · obtain ⟨R, rs, z, i, rfl, _⟩ := h
    rfl
  · obtain ⟨R, rs, z, i, rfl, ⟨ts, hR, hp⟩, ho, hi1, hi, hw, hrm, q⟩ := h
    refine ⟨_, pss_cons (ps_for PassesOwn.never rfl (pi_enum (by rfl) B.enu (pa_cons (pv 0) pa_nil)) (pg_tup (by rfl) (pgs_cons (pg_name (i := 3) scFF.nd rfl (.inl rfl)) (pgs_cons (pg_name (i := 4) scFF.nd rfl (.inl rfl)) pgs_nil)))
        (pss_one (ps_if (pt_val (pe_call GF hr (by rfl) mF kF bF .nil pass0 (pa_cons (pv 4) (pa_cons (pv 1) (pa_cons (pv 2) pa_nil))))) (pss_one (ps_ret (pv 3))) pss_nil)))
      (pss_one (ps_ret pe_non)), ?_⟩
    refine ⟨_, rfl, R, _, rfl, .inl (.inl hR), for_it (walk_enum (xs := ts.map V.ref)) (fun j σ H2 => Same H H2 ∧ (∃ v3 v4, σ = [some (.ref R), some (.str (T z)), some (.int i), v3, v4]) ∧ ∀ k ρ, k < j → rs[k]? = some ρ → fitsL ρ z i = false)
      ⟨Same.refl H, ⟨_, _, rfl⟩, fun k ρ h => absurd h (Nat.not_lt_zero k)⟩ (fun j σ H2 _ h => .inl (.inl (h.1 _ _ hR))) ?_ ?_⟩
    · rintro j x σ H2 H3 hj ⟨s2, ⟨v3, v4, rfl⟩, hn⟩ ⟨t, x1, x2, rfl, ht, rfl, g1, g2⟩
      cases g1
      have g2 : (ts.map V.ref)[j]? = some x2 := g2
      rw [List.getElem?_map] at g2
      obtain ⟨a, ha, e⟩ := Option.map_eq_some_iff.mp g2
      subst e
      obtain ⟨ρ, hρ, hat⟩ := paired_at hp ha
      have hm := ho ρ (List.mem_of_getElem? hρ)
      have sm := same_new ht (.tup [.int (j : Nat), .ref a])
      refine ⟨t, _, rfl, .inl (.inl upd_same), rfl, _, _, rfl, _, _, rfl, rfl, ?_⟩
      refine ⟨_, rfl, _, rfl, _, rfl, a, ρ, z, i, rfl, sm _ _ (s2 _ _ hat), hm.o2, hi1, hi, hw, hrm ρ (List.mem_of_getElem? hρ), _, rfl, ite2 (fun c => ?_) (fun c => ?_)⟩
      · refine ⟨_, rfl, ?_⟩
        have := q _ (s2.trans sm)
        have e : ff rs z i = some j := by
          refine List.findIdx?_eq_some_iff_getElem.mpr ⟨(List.getElem?_eq_some_iff.mp hρ).1, ?_, fun k hk => ?_⟩
          · rw [(List.getElem?_eq_some_iff.mp hρ).2]
            exact c
          · rw [hn k _ hk (List.getElem?_eq_getElem (by have := (List.getElem?_eq_some_iff.mp hρ).1; omega))]
            exact Bool.false_ne_true
        rw [e] at this
        exact this
      · refine ⟨s2.trans sm, ⟨_, _, rfl⟩, fun k ρ' hk hk' => ?_⟩
        by_cases e : k = j
        · subst e
          rw [hρ] at hk'
          cases hk'
          exact Bool.eq_false_iff.mpr c
        · exact hn k ρ' (by omega) hk'
    · rintro σ H2 ⟨s2, ⟨v3, v4, rfl⟩, hn⟩
      have := q _ s2
      have e : ff rs z i = none := by
        refine List.findIdx?_eq_none_iff.mpr fun ρ hρ => ?_
        obtain ⟨k, hk⟩ := List.mem_iff_getElem?.mp hρ
        have hl := (List.getElem?_eq_some_iff.mp hk).1
        exact hn k ρ (by rw [List.length_map, paired_len hp]; exact hl) hk
      rw [e] at this
      exact this
def spStL : Sp := fun vs H Q _ => ∃ (R : Addr) (rs : List Rule) (tl : List Nat), vs = [.ref R, .str (T tl)] ∧ RulesAtL H R rs ∧ (∀ ρ ∈ rs, RlOk ρ) ∧ 1 ≤ tl.length ∧ tl.length ≤ 81 ∧
  ∀ (t D : Addr) (H' : Hp), Same H H' → H D = none → H' t = some (.tup [.ref D, optI (Wt rs tl).2]) → StepsAt H' D (Wt rs tl).1 → Q (.ref t) H'
theorem ok_StL {f : Addr} {fd : FuncData} (F : Fun K "steps_of" "steps_of" sSt f fd) (B : Bn mg) (C : Cn mg) (cO : KI mg "OWN" 1) (DF : Df P w K mg base "first_fit" ["rules", "signs", "at"] 2 spFFL) : FnOk P w K mg base CX0 3 f fd ["rules", "tail"] spStL := by
  obtain ⟨fF, fdF, GF, kF, bF, mF⟩ := DF
  obtain ⟨tE, mE⟩ := C.edge
  obtain ⟨tO, mO⟩ := cO
  refine F.ok scSt (fun vs H Q E h => ?_) (fun cdv A outer s H vs Q E hr h => ?_)
  · obtain ⟨R, rs, tl, rfl, _⟩ := h
    rfl
  · obtain ⟨R, rs, tl, rfl, hR, ho, hl1, hw, q⟩ := h
    refine ⟨_, pss_cons (ps_set (i := 2) scSt.nd rfl (.inl rfl) (pe_op op_add_str (pv 1) (pe_glob (v := .str "#") rfl mE ⟨_, rfl⟩)))
      (pss_cons (ps_set (i := 3) scSt.nd rfl (.inl rfl) (pe_lst pa_nil))
      (pss_cons (ps_set (i := 4) scSt.nd rfl (.inl rfl) pe_int)
      (pss_cons (ps_while PassesOwn.never (pt_cmpR op_lt (pv 4) (pe_op op_sub (pe_callB call_len_str (by rfl) B.len PySem.boot_len (pa_cons (pv 2) pa_nil)) pe_int) (nomark _))
        (pss_cons (ps_set (i := 5) scSt.nd rfl (.inl rfl) (pe_call GF hr (by rfl) mF kF bF .nil pass0 (pa_cons (pv 0) (pa_cons (pv 2) (pa_cons (pv 4) pa_nil)))))
        (pss_cons (ps_if (pt_cmpR op_isN (pv 5) pe_non (nomark _)) (pss_one (ps_ret (pe_tup (pa_cons (pv 3) (pa_cons (pe_op op_sub (pv 4) pe_int) pa_nil))))) pss_nil)
        (pss_cons (ps_expr (pe_bm PySem.F.plainAttrs_list PySem.F.slot_list_append PySem.F.type_list_append mt_append (pv 3) (pa_cons (pe_tup (pa_cons (pe_op op_sub (pv 4) pe_int) (pa_cons (pv 5) pa_nil))) pa_nil)))
        (pss_one (ps_aug (i := 4) scSt.nd rfl (.inl rfl) (pe_callB call_len_str (by rfl) B.len PySem.boot_len (pa_cons (pe_ix ix_tup (pe_ix ix_list (pv 0) (pv 5) (fun _ _ => rfl)) (pe_glob (v := .int 1) rfl mO ⟨_, rfl⟩) (fun _ _ => rfl)) pa_nil)) ip_add))))))
      (pss_one (ps_ret (pe_tup (pa_cons (pv 3) (pa_cons pe_non pa_nil)))))))), ?_⟩
    refine ⟨_, rfl, _, _, rfl, rfl, (by rw [len_hash, T_len]; exact small (by omega)), ?_⟩
    rw [app_hash]
    show tSeq _ _ _ _ _
    refine ⟨(by show 0 ≤ sizeLine; decide), fun D hD => ?_⟩
    obtain ⟨rts, hRt, hRp⟩ := id hR
    have zl : (T (tl ++ [35])).length = tl.length + 1 := by rw [T_len, len1]
    have hz0 : (T (tl ++ [35])).length ≤ sizeLine := by rw [zl]; exact small (by omega)
    refine ⟨fun m σ H2 => ∃ (i : Nat) (acc : List (Nat × Nat)) (v5 : Option V), σ = [some (.ref R), some (.str (T tl)), some (.str (T (tl ++ [35]))), some (.ref D), some (.int i), v5] ∧ 1 ≤ i ∧ tl.length + 1 ≤ i + m ∧ Same H H2 ∧ StepsAt H2 D acc ∧
      Wt rs tl = (acc ++ (wk rs (tl ++ [35]) m i).1, (wk rs (tl ++ [35]) m i).2), ⟨tl.length, 1, [], _, rfl, Nat.le_refl _, by omega, same_new hD _, ⟨[], upd_same, .nil⟩, rfl⟩, fun m σ H2 hW => ?_⟩
    obtain ⟨i, acc, v5, rfl, hi1, hm, s2, hS, hW⟩ := hW
    refine ⟨_, rfl, _, rfl, _, rfl, hz0, _, _, rfl, rfl, _, _, rfl, rfl, _, rfl, ite2 (fun c => ?_) (fun c => ?_)⟩
    · have c' : (i : Int) < ((T (tl ++ [35])).length : Int) - 1 := of_decide_eq_true c
      rw [zl] at c'
      have hi : i < tl.length := by omega
      have hlt : i < (tl ++ [35]).length - 1 := by rw [len1]; omega
      obtain ⟨m', rfl⟩ : ∃ m', m = m' + 1 := ⟨m - 1, by omega⟩
      refine ⟨fun σ' H' => ∃ (i : Nat) (acc : List (Nat × Nat)) (v5 : Option V), σ' = [some (.ref R), some (.str (T tl)), some (.str (T (tl ++ [35]))), some (.ref D), some (.int i), v5] ∧ 1 ≤ i ∧ tl.length + 1 ≤ i + m' ∧ Same H H' ∧ StepsAt H' D acc ∧
        Wt rs tl = (acc ++ (wk rs (tl ++ [35]) m' i).1, (wk rs (tl ++ [35]) m' i).2), fun σ' H' h => ⟨m', Nat.lt_succ_self _, h⟩, ?_⟩
      refine ⟨_, rfl, _, rfl, _, rfl, R, rs, tl ++ [35], i, rfl, hR.same s2, ho, hi1, by rw [len1]; omega, by rw [len1]; omega, room_tl ho tl i, fun H3 s3 => ?_⟩
      have s23 := s2.trans s3
      obtain ⟨ts, hDl, hDp⟩ := hS.same s3
      cases e : ff rs (tl ++ [35]) i with
      | none =>
        rw [wk_none hlt e] at hW
        refine ⟨_, rfl, rfl, _, rfl, iteT ?_⟩
        refine ⟨_, rfl, _, rfl, _, _, rfl, rfl, (by show 2 ≤ sizeLine; decide), fun t ht => ?_⟩
        have sm := same_new ht (.tup [.ref D, .int ((i : Int) - 1)])
        refine q t D _ (s23.trans sm) hD ?_ ?_
        · rw [upd_same, hW]
          show some (HO.tup [V.ref D, V.int ((i : Int) - 1)]) = some (HO.tup [V.ref D, V.int ((i - 1 : Nat) : Int)])
          rw [show ((i - 1 : Nat) : Int) = (i : Int) - 1 by omega]
        · rw [hW, List.append_nil]
          exact StepsAt.same ⟨ts, hDl, hDp⟩ sm
      | some k =>
        rw [wk_some hlt e] at hW
        have hk := ff_lt e
        obtain ⟨a, ha, hat⟩ := paired_at' hRp (List.getElem?_eq_getElem hk)
        have hm2 := ho _ (List.getElem_mem hk)
        have er : ruleAt rs k = rs[k] := ruleAt_eq (List.getElem?_eq_getElem hk)
        refine ⟨_, rfl, rfl, _, rfl, ?_⟩
        rw [show decide (optI (some k) = V.non) = false from decide_eq_false (fun z => by cases z)]
        refine iteF ?_
        refine ⟨_, rfl, .inl ⟨rfl, _, .inl (.inl hDl)⟩, _, rfl, _, _, rfl, rfl, _, rfl, (by show 2 ≤ sizeLine; decide), fun t ht => ?_⟩
        have sm := same_new ht (.tup [.int ((i : Int) - 1), .int (k : Nat)])
        have hDl' := sm _ _ hDl
        have sall : Same H (upd (upd H3 t (.tup [.int ((i : Int) - 1), .int (k : Nat)])) D (.lst (ts.map V.ref ++ [.ref t]))) := fun b u e => by
          rw [upd_ne (ne_of_none e hD)]
          exact sm _ _ (s23 _ _ e)
        refine ⟨D, _, _, rfl, rfl, hDl', ?_, ?_⟩
        · rw [List.length_map, paired_len hDp]
          have l1 : (Wt rs tl).1.length ≤ tl.length := wk_len rs (tl ++ [35]) tl.length 1
          rw [hW] at l1
          simp at l1
          exact small1000 (by omega)
        · have kR : Same H3 (upd (upd H3 t (.tup [.int ((i : Int) - 1), .int (k : Nat)])) D (.lst (ts.map V.ref ++ [.ref t]))) → True := fun _ => trivial
          have atR := sall _ _ hRt
          have ata := sall _ _ hat
          refine ⟨_, rfl, _, rfl, _, rfl, R, _, (k : Int), .ref a, rfl, rfl, .inl (.inl atR), atI_nat (by rw [List.getElem?_map, ha]; rfl), a, _, 1, .str (T rs[k].ow), rfl, rfl, .inl (.inl ata), atI_nat (j := 1) rfl, _, rfl, (by rw [T_len]; have := hm2.o2; exact small (by omega)), _, _, rfl, rfl, ?_⟩
          refine ⟨i + rs[k].ow.length, acc ++ [(i - 1, k)], some (.int (k : Nat)), ?_, by omega, by have := hm2.o1; omega, sall, ?_, ?_⟩
          · have ee : ((i + rs[k].ow.length : Nat) : Int) = (i : Int) + ((T rs[k].ow).length : Int) := by rw [T_len]; omega
            rw [ee]
            rfl
          · refine ⟨ts ++ [t], by rw [upd_same, List.map_append]; rfl, paired_app (paired_mono (fun t' s h => ?_) hDp) (.cons ?_ .nil)⟩
            · rw [upd_ne (ne_of h hDl (by intro z; cases z))]
              exact sm _ _ h
            · rw [upd_ne (ne_of_none hDl ht).symm, upd_same]
              show some (HO.tup [V.int ((i : Int) - 1), V.int (k : Nat)]) = some (HO.tup [V.int ((i - 1 : Nat) : Int), V.int (k : Nat)])
              rw [show ((i - 1 : Nat) : Int) = (i : Int) - 1 by omega]
          · rw [hW, er, List.append_assoc]
            rfl
    · have c' : ¬ (i : Int) < ((T (tl ++ [35])).length : Int) - 1 := of_decide_eq_false (Bool.eq_false_iff.mpr c)
      rw [zl] at c'
      rw [wk_end rs (tl ++ [35]) m i (by rw [len1]; omega)] at hW
      refine ⟨_, rfl, (by show 2 ≤ sizeLine; decide), fun t ht => ?_⟩
      have sm := same_new ht (.tup [.ref D, .non])
      refine q t D _ (s2.trans sm) hD ?_ ?_
      · rw [upd_same, hW]
        rfl
      · rw [hW, List.append_nil]
        exact hS.same sm
def spSouL : Sp := fun vs H Q _ => ∃ (R D : Addr) (rs : List Rule) (ks : List Nat), vs = [.ref R, .ref D] ∧ RulesAtL H R rs ∧ (∀ ρ ∈ rs, RlOk ρ) ∧ H D = some (.lst (ks.map fun k => V.int (k : Nat))) ∧ (∀ k ∈ ks, k < rs.length) ∧ ks.length ≤ 200 ∧
  ∀ (H' : Hp), Same H H' → Q (.str (T (soL rs ks))) H'
theorem ok_souL {f : Addr} {fd : FuncData} {k : Nat} (F : Fun K "sounds_of" "sounds_of" sSou f fd) (cS : KI mg "SOUNDS" 3) : FnOk P w K mg base CX0 (k + 1) f fd ["rules", "numbers"] spSouL := by
  obtain ⟨tS, mS⟩ := cS
  refine F.ok scSou (fun vs H Q E h => ?_) (fun cdv A outer s H vs Q E hr h => ?_)
  · obtain ⟨R, D, rs, ks, rfl, _⟩ := h
    rfl
  · obtain ⟨R, D, rs, ks, rfl, ⟨rts, hR, hRp⟩, ho, hD, hk, hl, q⟩ := h
    refine ⟨_, pss_one (ps_ret (pe_join pe_str (pe_lc (own := [("number", 2)]) (g := gName 2) (te := tOp (rIxT K) (tOp (rIxL K) (tVar 0) (tVar 2)) (tC (.int 3))) rfl scSou.nd (pi_list (pv 1))
        (blkOk_by (N := ["rules", "numbers", "number"]) (sc := defScope sSou) (by decide +kernel)) (fun _ _ _ _ _ => pg_name (i := 2) scSou.nd rfl (.inl rfl))
        (fun _ _ _ _ _ => pts_nil) (fun _ _ _ _ _ => pe_ix ix_tup (pe_ix ix_list (pv 0) (pv 2) (fun _ _ => rfl)) (pe_glob (v := .int 3) rfl mS ⟨_, rfl⟩) (fun _ _ => rfl))))), ?_⟩
    refine ⟨⟨_, rfl⟩, _, rfl, D, rfl, ⟨_, .inl (.inl hD)⟩, fun D' hD' => ?_⟩
    refine lc_it (walk_list (xs := ks.map fun k => V.int (k : Nat))) (fun i H2 => H2 D' = some (.lst ((((ks.take i).map fun k => (ruleAt rs k).so).map T).map V.str)) ∧ Same H H2) ?_ (fun i H2 _ h => .inl (.inl (h.2 _ _ hD))) ?_ ?_
    · exact ⟨upd_same, same_new hD' _⟩
    · rintro i x H2 H2' hi ⟨e1, e2⟩ ⟨rfl, hx⟩
      rw [List.getElem?_map] at hx
      obtain ⟨j, hj, e⟩ := Option.map_eq_some_iff.mp hx
      subst e
      have hjl := hk j (List.mem_of_getElem? hj)
      have hi2 : i < ks.length := (List.getElem?_eq_some_iff.mp hj).1
      obtain ⟨a, ha, hat⟩ := paired_at' hRp (List.getElem?_eq_getElem hjl)
      have er : ruleAt rs j = rs[j] := ruleAt_eq (List.getElem?_eq_getElem hjl)
      refine ⟨rfl, ?_⟩
      refine ⟨_, rfl, _, rfl, R, _, (j : Int), .ref a, rfl, rfl, .inl (.inl (e2 _ _ hR)), atI_nat (by rw [List.getElem?_map, ha]; rfl), a, _, 3, .str (T rs[j].so), rfl, rfl, .inl (.inl (e2 _ _ hat)), atI_nat (j := 3) rfl, _, e1, ?_, ?_, ?_⟩
      · rw [List.length_map, List.length_map, List.length_map, List.length_take]
        exact small1000 (by omega)
      · rw [upd_same, List.take_add_one, hj]
        simp only [Option.toList_some, List.map_append, List.map_cons, List.map_nil, er]
      · exact fun b u q => by
          rw [upd_ne (ne_of_none q hD')]
          exact e2 b u q
    · rintro H2 ⟨e1, e2⟩
      rw [List.length_map, List.take_length] at e1
      refine ⟨Str.ofString "", D', (ks.map fun k => (ruleAt rs k).so).map T, rfl, rfl, .inl (.inl (.inl e1)), ?_, ?_⟩
      · rw [sum_T]
        have := flat_len ho ks hk
        show (soL rs ks).length + _ * 0 ≤ _
        omega
      · rw [show Str.ofString "" = T [] from nil_eq, join_nil]
        exact q H2 e2
def spEndL : Sp := fun vs H Q _ => ∃ (R : Addr) (rs : List Rule) (tl : Option (List Nat)), vs = [.ref R, optT tl] ∧ RulesAtL H R rs ∧ (∀ ρ ∈ rs, RlOk ρ) ∧ TlOk tl ∧
  ∀ (v : V) (H' : Hp), Same H H' → EndV H' v (endM rs tl) → Q v H'
theorem ok_endL {f : Addr} {fd : FuncData} (F : Fun K "ending" "ending" sEnd f fd) (DS : Df P w K mg base "steps_of" ["rules", "tail"] 3 spStL) (DN : Df P w K mg base "numbers_of" ["steps"] 1 spNum) : FnOk P w K mg base CX0 4 f fd ["rules", "tail"] spEndL := by
  obtain ⟨fS, fdS, GS, kS, bS, mS⟩ := DS
  obtain ⟨fN, fdN, GN, kN, bN, mN⟩ := DN
  refine F.ok scEnd (fun vs H Q E h => ?_) (fun cdv A outer s H vs Q E hr h => ?_)
  · obtain ⟨R, rs, tl, rfl, _⟩ := h
    rfl
  · obtain ⟨R, rs, tl, rfl, hR, ho, hw, q⟩ := h
    have hr1 : Room 1 _ := hr.mono (by decide)
    refine ⟨_, pss_cons (ps_if (pt_cmpR op_isN (pv 1) pe_non (nomark _)) (pss_one (ps_ret pe_non)) pss_nil)
      (pss_cons (ps_asg (pe_call GS hr (by rfl) mS kS bS .nil pass0 (pa_cons (pv 0) (pa_cons (pv 1) pa_nil))) (pg_tup (by rfl) (pgs_cons (pg_name (i := 2) scEnd.nd rfl (.inl rfl)) (pgs_cons (pg_name (i := 3) scEnd.nd rfl (.inl rfl)) pgs_nil))))
      (pss_cons (ps_if (pt_cmpR op_notN (pv 3) pe_non (nomark _)) (pss_one (ps_ret pe_non)) pss_nil)
      (pss_one (ps_ret (pe_call GN hr1 (by rfl) mN kN bN .nil pass0 (pa_cons (pv 2) pa_nil)))))), ?_⟩
    cases tl with
    | none =>
      refine ⟨_, rfl, rfl, _, rfl, iteT ?_⟩
      exact q _ H (Same.refl H) rfl
    | some tl =>
    obtain ⟨h1, h81⟩ := hw tl rfl
    refine ⟨_, rfl, rfl, _, rfl, ?_⟩
    rw [show decide (optT (some tl) = V.non) = false from decide_eq_false (fun z => by cases z)]
    refine iteF ?_
    refine ⟨_, rfl, _, rfl, R, rs, tl, rfl, hR, ho, h1, h81, fun t D H1 s1 hD ht hS => ?_⟩
    refine ⟨t, _, rfl, .inl (.inl ht), rfl, _, _, rfl, _, _, rfl, rfl, ?_⟩
    refine ⟨_, rfl, rfl, _, rfl, ?_⟩
    simp only [endM] at q
    cases e : (Wt rs tl).2 with
    | some p =>
      rw [e, if_neg (fun z => by cases z)] at q
      rw [show decide (optI (some p) = V.non) = false from decide_eq_false (fun z => by cases z)]
      refine iteT ?_
      exact q _ H1 s1 rfl
    | none =>
      rw [e, if_pos rfl] at q
      refine iteF ?_
      have hl : (Wt rs tl).1.length ≤ tl.length := wk_len rs (tl ++ [35]) tl.length 1
      refine ⟨_, rfl, D, _, rfl, hS, by omega, fun D' H2 s2 _ h2 => ?_⟩
      refine q _ H2 (s1.trans s2) ⟨D', rfl, ?_⟩
      rw [h2, List.map_map]
      rfl
def spEnSL : Sp := fun vs H Q _ => ∃ (R : Addr) (rs : List Rule) (tl : Option (List Nat)), vs = [.ref R, optT tl] ∧ RulesAtL H R rs ∧ (∀ ρ ∈ rs, RlOk ρ) ∧ TlOk tl ∧
  ∀ (H' : Hp), Same H H' → Q (optT (ensM rs tl)) H'
theorem ok_enSL {f : Addr} {fd : FuncData} (F : Fun K "ending_sounds" "ending_sounds" sEnS f fd) (DE : Df P w K mg base "ending" ["rules", "tail"] 4 spEndL) (DN : Df P w K mg base "sounds_of" ["rules", "numbers"] 1 spSouL) : FnOk P w K mg base CX0 5 f fd ["rules", "tail"] spEnSL := by
  obtain ⟨fS, fdS, GS, kS, bS, mS⟩ := DE
  obtain ⟨fN, fdN, GN, kN, bN, mN⟩ := DN
  refine F.ok scEnS (fun vs H Q E h => ?_) (fun cdv A outer s H vs Q E hr h => ?_)
  · obtain ⟨R, rs, tl, rfl, _⟩ := h
    rfl
  · obtain ⟨R, rs, tl, rfl, hR, ho, hw, q⟩ := h
    have hr1 : Room 1 _ := hr.mono (by decide)
    refine ⟨_, pss_cons (ps_set (i := 2) scEnS.nd rfl (.inl rfl) (pe_call GS hr (by rfl) mS kS bS .nil pass0 (pa_cons (pv 0) (pa_cons (pv 1) pa_nil))))
      (pss_cons (ps_if (pt_cmpR op_isN (pv 2) pe_non (nomark _)) (pss_one (ps_ret pe_non)) pss_nil)
      (pss_one (ps_ret (pe_call GN hr1 (by rfl) mN kN bN .nil pass0 (pa_cons (pv 0) (pa_cons (pv 2) pa_nil)))))), ?_⟩
    refine ⟨_, rfl, _, rfl, R, rs, tl, rfl, hR, ho, hw, fun v H1 s1 hv => ?_⟩
    unfold ensM at q
    cases e : endM rs tl with
    | none =>
      rw [e] at hv q
      cases hv
      refine ⟨_, rfl, rfl, _, rfl, iteT ?_⟩
      exact q H1 s1
    | some ks =>
      rw [e] at hv q
      obtain ⟨D, rfl, hD⟩ := hv
      obtain ⟨hk, hl⟩ := end_ks e hw
      refine ⟨_, rfl, rfl, _, rfl, ?_⟩
      rw [show decide (V.ref D = V.non) = false from decide_eq_false (fun z => by cases z)]
      refine iteF ?_
      exact ⟨_, rfl, _, rfl, R, D, rs, ks, rfl, hR.same s1, ho, hD, hk, by omega, fun H2 s2 => q H2 (s1.trans s2)⟩
def spWSL : Sp := fun vs H Q _ => ∃ (R : Addr) (rs : List Rule) (wd : List Nat), vs = [.ref R, .str (T wd)] ∧ RulesAtL H R rs ∧ (∀ ρ ∈ rs, RlOk ρ) ∧ wd.length ≤ 80 ∧
  ∀ (H' : Hp), Same H H' → Q (optT (sayW rs wd)) H'
theorem ok_WSL {f : Addr} {fd : FuncData} (F : Fun K "word_sounds" "word_sounds" sWS f fd) (C : Cn mg) (DE : Df P w K mg base "ending_sounds" ["rules", "tail"] 5 spEnSL) : FnOk P w K mg base CX0 6 f fd ["rules", "word"] spWSL := by
  obtain ⟨fE, fdE, GE, kE, bE, mE⟩ := DE
  obtain ⟨tE, mG⟩ := C.edge
  refine F.ok scWS (fun vs H Q E h => ?_) (fun cdv A outer s H vs Q E hr h => ?_)
  · obtain ⟨R, rs, wd, rfl, _⟩ := h
    rfl
  · obtain ⟨R, rs, wd, rfl, hR, ho, hw, q⟩ := h
    refine ⟨_, pss_one (ps_ret (pe_call GE hr (by rfl) mE kE bE .nil pass0 (pa_cons (pv 0) (pa_cons (pe_op op_add_str (pe_glob (v := .str "#") rfl mG ⟨_, rfl⟩) (pv 1)) pa_nil)))), ?_⟩
    exact ⟨_, rfl, _, rfl, _, _, rfl, rfl, (by rw [len_hash, T_len]; exact small (by omega)), R, rs, some (35 :: wd), (by rw [hash_app]; rfl), hR, ho, (fun t e => by cases e; exact ⟨by simp, by simp; omega⟩), fun H1 s1 => by have := q H1 s1; rw [sayW_ens] at this; exact this⟩
def spIsSaidL : Sp := fun vs H Q _ => ∃ (R t : Addr) (rs : List Rule) (e : Exc), vs = [.ref R, .ref t] ∧ RulesAtL H R rs ∧ (∀ ρ ∈ rs, RlOk ρ) ∧ H t = some (.tup [.str (T e.1), .str (T e.2)]) ∧ e.1.length ≤ 80 ∧
  ∀ (H' : Hp), Same H H' → Q (.bl (decide (sayW rs e.1 = some e.2))) H'
theorem ok_isSaidL {f : Addr} {fd : FuncData} (F : Fun K "is_said" "is_said" sIsSaid f fd) (DE : Df P w K mg base "word_sounds" ["rules", "word"] 6 spWSL) : FnOk P w K mg base CX0 7 f fd ["rules", "sample"] spIsSaidL := by
  obtain ⟨fE, fdE, GE, kE, bE, mE⟩ := DE
  refine F.ok scIsSaid (fun vs H Q E h => ?_) (fun cdv A outer s H vs Q E hr h => ?_)
  · obtain ⟨R, t, rs, e, rfl, _⟩ := h
    rfl
  · obtain ⟨R, t, rs, e, rfl, hR, ho, ht, hw, q⟩ := h
    refine ⟨_, pss_cons (ps_asg (pv 1) (pg_tup (by rfl) (pgs_cons (pg_name (i := 2) scIsSaid.nd rfl (.inl rfl)) (pgs_cons (pg_name (i := 3) scIsSaid.nd rfl (.inl rfl)) pgs_nil))))
      (pss_one (ps_ret (pe_cmpR op_eq (pe_call GE hr (by rfl) mE kE bE .nil pass0 (pa_cons (pv 0) (pa_cons (pv 2) pa_nil))) (pv 3) (nomark _)))), ?_⟩
    refine ⟨_, rfl, t, _, rfl, .inl (.inl ht), rfl, _, _, rfl, _, _, rfl, rfl, ?_⟩
    refine ⟨_, rfl, _, rfl, R, rs, e.1, rfl, hR, ho, hw, fun H1 s1 => ?_⟩
    have hsc : scal (optT (sayW rs e.1)) (V.str (T e.2)) = true := by
      cases sayW rs e.1 <;> rfl
    refine ⟨_, rfl, hsc, ?_⟩
    have := q H1 s1
    rw [← eqO] at this
    exact this
end
end Say
/-! all of a generator expression whose test may call: its frame is a context of its own -/
namespace AG
open PySem PySem.Spec PyProof.Rows L2 GenW
/-- the context of a generator expression's frame -/
abbrev gx (X : Cx) (GA : Around) (s : Shared) (H : Hp) (N : List Str) (cenv : Env) (fp : List Addr) : Cx := { X with A := GA, N := N, s_0 := s, H_0 := H, env := cenv, outer := X.stack, stack := cenv :: X.stack, ex := fp, fn := fun _ => false, calm := true, pn := [], xe := fun _ _ => False }
abbrev gExp (elt iter : Expr) (x : Str) (px : Pos) (scope : Scope) (pos : Pos) : Expr := .GeneratorExp elt [⟨.Name x px, iter, [], 0⟩] scope pos
abbrev gLoop (elt iter : Expr) (x : Str) (px : Pos) (scope : Scope) (pos : Pos) (it : Addr) (cenv : Env) : Code := .compLoop (gExp elt iter x px scope pos) 0 (.ref it) .none cenv
abbrev gAr (A : Around) (elt iter : Expr) (x : Str) (px : Pos) (scope : Scope) (pos : Pos) (it : Addr) (cenv : Env) : Around := A.in1.in1.over (gLoop elt iter x px scope pos it cenv) []
/-- the generator expression's own scope: its name x, the walked thing at «.0», one captured name y -/
structure GSc (scope : Scope) (x y : Str) : Prop where
  kind : scope.kind = .function
  co : scope.isCoroutine = false
  cell : ∀ z ∈ scope.names, z.2 ≠ .cell
  dot : scope.names.lookup (".0" : Str) = some NameKind.local
  loc : scope.names.lookup x = some .local
  fr : scope.names.lookup y = some .free
  only : ∀ z ∈ scope.names, z.2 = .free → z.1 = y
  clo : ∀ cells, cloFrom cells scope.names [] = [(y, (cells.lookup y).getD 0)]
  ne : [y, x].Nodup
theorem lookup_mem {α : Type} {l : List (Str × α)} {n : Str} {c : α} (h : l.lookup n = some c) : (n, c) ∈ l := PySem.mem_of_lookup h
section
variable {X : Cx} {elt iter : Expr} {x y : Str} {px pos : Pos} {scope : Scope} {it a : Addr} {g : Nat} {cenv : Env} {fp : List Addr} {tn : Nat → Heap → Prop} {J : It} {sB : Shared} {HB : Hp} {ob : Obj} {rv : V} {Q : VK} {W : Nat → Hp → Prop} {te : TE} {n0 : Nat}
def GInv (X : Cx) (GA : Around) (sB : Shared) (HB : Hp) (x y : Str) (cenv : Env) (fp : List Addr) (a : Addr) (ob : Obj) (rv : V) (H : Hp) (s : Shared) : Prop := ∃ σ2, Inv (gx X GA sB HB [y, x] cenv fp) [(a, ob)] [some rv, σ2] H s
def GI (X : Cx) (GA : Around) (sB : Shared) (HB : Hp) (x y : Str) (cenv : Env) (fp : List Addr) (tn : Nat → Heap → Prop) (a : Addr) (ob : Obj) (rv : V) (i : Nat) (H : Hp) (s : Shared) : Prop :=
  GInv X GA sB HB x y cenv fp a ob rv H s ∧ tn i s.heap ∧ ∀ b ∈ fp, H b = none
def GP (X : Cx) (GA : Around) (sB : Shared) (HB : Hp) (x y : Str) (cenv : Env) (fp : List Addr) (a : Addr) (ob : Obj) (rv : V) (Q : VK) : Nat → Shared → Shared → Prop := fun _ _ s₁ => ∃ H, GInv X GA sB HB x y cenv fp a ob rv H s₁ ∧ Q (.bl true) H
def GY (X : Cx) (GA : Around) (sB : Shared) (HB : Hp) (x y : Str) (cenv : Env) (fp : List Addr) (tn : Nat → Heap → Prop) (a : Addr) (ob : Obj) (rv : V) (Q : VK) (W : Nat → Hp → Prop) (n0 : Nat) : Protocol := fun m _ v s kap =>
  ∃ i H, i + m = n0 ∧ GI X GA sB HB x y cenv fp tn a ob rv i H s ∧ ((v = .bool true ∧ W i H ∧ ∀ s'' H'', W i H'' → GI X GA sB HB x y cenv fp tn a ob rv i H'' s'' → kap (.send .none) s'') ∨ (v = .bool false ∧ Q (.bl false) H))
theorem GInv.gens {GA : Around} {H : Hp} {s : Shared} (I : GInv X GA sB HB x y cenv fp a ob rv H s) {k : Nat} {z : GenState} (hz : z.bare = true) : GInv X GA sB HB x y cenv fp a ob rv H (s.setGen k z) := by
  obtain ⟨σ2, I⟩ := I
  exact ⟨σ2, ⟨I.ok, I.os, allBare_setGen I.bare hz, I.base, I.loc, I.cell, I.free, I.freeC, I.pin, I.hok, I.len⟩⟩
theorem GI.gens {GA : Around} {i : Nat} {H : Hp} {s : Shared} (I : GI X GA sB HB x y cenv fp tn a ob rv i H s) {k : Nat} {z : GenState} (hz : z.bare = true) : GI X GA sB HB x y cenv fp tn a ob rv i H (s.setGen k z) :=
  ⟨I.1.gens hz, I.2.1, I.2.2⟩
/-- what the walk of the generator is promised, turn by turn -/
def Walk (J : It) (Q : VK) (W : Nat → Hp → Prop) (te : TE) (rv : V) (n0 : Nat) : Prop := ∀ i H, W i H → (J.stop i H ∧ Q (.bl true) H) ∨ (i < n0 ∧ J.go i H ∧ ∀ v H', J.yld i H v H' → te [some rv, some v] H' fun b H2 => (b = .bl true ∧ W (i + 1) H2) ∨ (b = .bl false ∧ Q (.bl false) H2))
theorem seg_loop (hsc : cenv.scope = scope) (S : GSc scope x y) (T : Turn X.prog X.w X.K (.Name x px) J fp it tn) (hap : ∀ b ∈ fp, a ≠ b)
    (hel : PE (gx X (gAr X.A elt iter x px scope pos it cenv) sB HB [y, x] cenv fp) elt te) (turn : Walk J Q W te rv n0) :
    ∀ (n i : Nat) (s₀ s : Shared) (H : Hp), i + n = n0 → W i H → GI X (gAr X.A elt iter x px scope pos it cenv) sB HB x y cenv fp tn a ob rv i H s →
      Seg (model X.prog X.w) X.A.in1.in1 (fun n s₀ r s₁ => r = .ok .next ∧ GP X (gAr X.A elt iter x px scope pos it cenv) sB HB x y cenv fp a ob rv Q n s₀ s₁) (GY X (gAr X.A elt iter x px scope pos it cenv) sB HB x y cenv fp tn a ob rv Q W n0) n s₀
        (gLoop elt iter x px scope pos it cenv) ((model X.prog X.w).den (gLoop elt iter x px scope pos it cenv)) [] s := by
  have stat : ∀ {σ' : L2.St} {H' : Hp} {s' : Shared}, Inv (gx X (gAr X.A elt iter x px scope pos it cenv) sB HB [y, x] cenv fp) [(a, ob)] σ' H' s' → (∀ b ∈ fp, H' b = none) → ∀ b ∈ fp, FpOk (gx X (gAr X.A elt iter x px scope pos it cenv) sB HB [y, x] cenv fp) [(a, ob)] H' b := fun {σ' H' s'} I' hn b hb =>
    ⟨hn b hb, (I'.ok.exf b hb).1, I'.ok.exfs b hb, .inl hb, fun x c e => (I'.ok.exf b hb).2 x c e, fun p hp => by
      rcases List.mem_cons.mp (show p ∈ [(a, ob)] from hp) with rfl | hp
      · exact hap b hb
      · cases hp⟩
  intro n
  induction n with
  | zero =>
    intro i s₀ s H hn hW hG
    obtain ⟨⟨σ2, I⟩, st, nf⟩ := hG
    show Seg _ _ _ _ _ s₀ _ ((compTurn (gExp elt iter x px scope pos) 0 (.ref it) .none cenv).onRaise (leaving cenv)) [] s
    rw [compTurn_gen, Sem.onRaise_eq_wrap]
    refine seg_bind_wrap (wpAny_standAt ?_)
    rcases turn i H hW with ⟨stop, q⟩ | ⟨lt, _⟩
    · refine seg_bind_wrap (thnF (T.done (gx X (gAr X.A elt iter x px scope pos it cenv) sB HB [y, x] cenv fp) rfl rfl rfl rfl i [(a, ob)] s _ H (fun _ _ => False) I (stat I nf) st stop) (fun r s1 h => ?_))
      obtain ⟨rfl, I1⟩ := h
      exact seg_end (.ok .next) ⟨rfl, H, ⟨σ2, I1⟩, q⟩
    · omega
  | succ n ih =>
    intro i s₀ s H hn hW hG
    obtain ⟨⟨σ2, I⟩, st, nf⟩ := hG
    show Seg _ _ _ _ _ s₀ _ ((compTurn (gExp elt iter x px scope pos) 0 (.ref it) .none cenv).onRaise (leaving cenv)) [] s
    rw [compTurn_gen, Sem.onRaise_eq_wrap]
    refine seg_bind_wrap (wpAny_standAt ?_)
    rcases turn i H hW with ⟨stop, q⟩ | ⟨lt, go, step⟩
    · refine seg_bind_wrap (thnF (T.done (gx X (gAr X.A elt iter x px scope pos it cenv) sB HB [y, x] cenv fp) rfl rfl rfl rfl i [(a, ob)] s _ H (fun _ _ => False) I (stat I nf) st stop) (fun r s1 h => ?_))
      obtain ⟨rfl, I1⟩ := h
      exact seg_end (.ok .next) ⟨rfl, H, ⟨σ2, I1⟩, q⟩
    · refine seg_bind_wrap (thnF (T.item (gx X (gAr X.A elt iter x px scope pos it cenv) sB HB [y, x] cenv fp) rfl rfl rfl rfl i [(a, ob)] s _ H (fun _ _ => False) I (stat I nf) st go) (fun r s1 h => ?_))
      obtain ⟨u, rfl, h⟩ := h
      refine seg_bind_wrap (thnF h (fun _ s2 h2 => ?_))
      obtain ⟨v, H2, I2, r2, y2, st2, nf2⟩ := h2
      have I2' := I2.pinned (stat I2 nf2) (T.obj _ _ st2)
      have pg : PG (gx X (gAr X.A elt iter x px scope pos it cenv) sB HB [y, x] cenv fp) (.Name x px) (gName 1) := pg_name (i := 1) S.ne rfl (.inl (by show cenv.scope.names.lookup x = _; rw [hsc]; exact S.loc)) (.inr (by show cenv.scope.names.lookup x = _; rw [hsc]; exact S.loc))
      refine seg_bind_wrap (thnF (pg.run _ s2 _ H2 v u (fun σ3 H3 => σ3 = [some rv, some v] ∧ H3 = H2) I2' r2 ⟨rfl, rfl⟩) (fun _ s3 h3 => ?_))
      obtain ⟨σ3, H3, I3, rfl, rfl⟩ := h3
      refine seg_bind_wrap (wpAny_of_eq (a := true) (by simp only [List.forIn_nil]) ?_)
      simp only [if_true]
      have hy : ∀ v, yieldOut cenv v = yieldValue v := fun v => by simp only [yieldOut, hsc, S.co, Bool.false_eq_true, if_false]
      simp only [hy]
      rw [Sem.bind_eq_wrap', Sem.bind_eq_wrap', Sem.wrap_wrap, Sem.wrap_wrap]
      refine seg_wrap (thnF (hel.run _ s3 _ _ _ I3 (step v _ y2)) (fun b s4 h4 => ?_))
      obtain ⟨bv, H4, I4, r4, q4⟩ := h4
      have st4 : tn (i + 1) s4.heap := T.keep _ _ _ st2 fun b hb o e => (I4.pin (b, o) (List.mem_append_right _ (List.mem_append_right _ (mem_pinsAt hb e)))).1
      have nf4 : ∀ b ∈ fp, H4 b = none := fun b hb => by
        obtain ⟨o, e, d⟩ := T.obj _ _ st2 b hb
        exact (I4.pin (b, o) (List.mem_append_right _ (List.mem_append_right _ (mem_pinsAt hb e)))).2.1
      have G4 : GI X (gAr X.A elt iter x px scope pos it cenv) sB HB x y cenv fp tn a ob rv (i + 1) H4 s4 := ⟨⟨_, I4.unpinned⟩, st4, nf4⟩
      refine seg_at (seg_yield rfl rfl rfl ⟨i + 1, H4, by omega, G4, ?_⟩)
      rcases q4 with ⟨rfl, w4⟩ | ⟨rfl, q4⟩
      · exact .inl ⟨r4, w4, fun s'' H'' hW'' hG'' => seg_again rfl (ih (i + 1) s'' s'' H'' (by omega) hW'' hG'')⟩
      · exact .inr ⟨r4, q4⟩
theorem seg_start (hsc : cenv.scope = scope) (S : GSc scope x y) (T : Turn X.prog X.w X.K (.Name x px) J fp it tn) (hap : ∀ b ∈ fp, a ≠ b)
    (hel : PE (gx X (gAr X.A elt iter x px scope pos it cenv) sB HB [y, x] cenv fp) elt te) (turn : Walk J Q W te rv n0) (s₀ s : Shared) (H : Hp) (hW : W 0 H) (hG : GI X (gAr X.A elt iter x px scope pos it cenv) sB HB x y cenv fp tn a ob rv 0 H s) :
      Seg (model X.prog X.w) X.A.in1.in1 (fun n s₀ r s₁ => r = .ok .next ∧ GP X (gAr X.A elt iter x px scope pos it cenv) sB HB x y cenv fp a ob rv Q n s₀ s₁) (GY X (gAr X.A elt iter x px scope pos it cenv) sB HB x y cenv fp tn a ob rv Q W n0) n0 s₀
        (.compStart (gExp elt iter x px scope pos) 0 (.ref it) .none cenv) ((model X.prog X.w).den (.compStart (gExp elt iter x px scope pos) 0 (.ref it) .none cenv)) [] s := by
  have loop := fun s₀ => seg_loop (iter := iter) (pos := pos) (elt := elt) (sB := sB) (HB := HB) (ob := ob) hsc S T hap hel turn n0 0 s₀ s H (Nat.zero_add _) hW hG
  show Seg _ _ _ _ _ s₀ _ ((compStart (gExp elt iter x px scope pos) 0 (.ref it) .none cenv).onRaise (leaving cenv)) [] s
  unfold compStart
  rw [Sem.onRaise_eq_wrap]
  show Seg _ _ _ _ _ s₀ _ ((ask >>= _).wrap _ _ _ _) [] s
  refine seg_bind_wrap (wpAny_askSetting ?_)
  split
  · exact seg_again rfl (loop s₀)
  · first
      | exact seg_bind_wrap (wpAny_rule (seg_bind_wrap (wpAny_standAt (seg_bind_wrap (T.self _ 0 s _ _ hG.2.1 (seg_again rfl (loop s₀)))))))
      | (refine seg_bind_wrap (wpAny_rule ?_); show Seg _ _ _ _ _ s₀ _ ((standAt iter.pos >>= _).wrap _ _ _ _) [] s; exact seg_bind_wrap (wpAny_standAt (seg_bind_wrap (T.self _ 0 s _ _ hG.2.1 (seg_again rfl (loop s₀))))))
/-- the generator's record -/
abbrev gOb (g : Nat) (nm qn : Value) : Obj := { cls := .type "generator", data := .fields #[.int g 0, nm, qn] }
theorem isGen {GA : Around} {H : Hp} {s : Shared} {nm qn : Value} (I : GInv X GA sB HB x y cenv fp a (gOb g nm qn) rv H s) : s.heap.IsGen a g := by
  obtain ⟨σ2, I⟩ := I
  exact ⟨_, nm, qn, (I.pin (a, gOb g nm qn) (List.mem_append_right _ List.mem_cons_self)).1, rfl, rfl, rfl⟩
theorem GInv.heap {GA : Around} {H : Hp} {s : Shared} {h' : Heap} (I : GInv X GA sB HB x y cenv fp a ob rv H s) (hk : ∀ b o, s.heap.get? b = some o → h'.get? b = some o) : GInv X GA sB HB x y cenv fp a ob rv H { s with heap := h' } := by
  obtain ⟨σ2, I⟩ := I
  exact ⟨σ2, I.kept (t' := s.toks) hk⟩
theorem all_loop {GA : Around} {nm qn : Value} {k : Nat} (hr : Room k X.A) {R : Result → Shared → Prop} (hR : ∀ b H s, Q (.bl b) H → GInv X GA sB HB x y cenv fp a (gOb g nm qn) rv H s → R (.ok (.ret (.bool b))) s) :
    ∀ (n i : Nat) (s : Shared) (H : Hp) (gs : GenState), i + n = n0 → W i H → GI X GA sB HB x y cenv fp tn a (gOb g nm qn) rv i H s → s.gens[g]? = some gs →
      (∀ s'' H'', W i H'' → GI X GA sB HB x y cenv fp tn a (gOb g nm qn) rv i H'' s'' → gs.Goes (model X.prog X.w) X.A.in1.in1 (fun n s₀ r s₁ => r = .ok .next ∧ GP X GA sB HB x y cenv fp a (gOb g nm qn) rv Q n s₀ s₁) (GY X GA sB HB x y cenv fp tn a (gOb g nm qn) rv Q W n0) n (.send .none) s'') →
      codeAny (model X.prog X.w) X.A (.builtin "all.loop" ⟨[.ref a], []⟩) R s := by
  have main : ∀ (n i : Nat) (s : Shared) (H : Hp) (gs : GenState), i + n = n0 → W i H → GI X GA sB HB x y cenv fp tn a (gOb g nm qn) rv i H s → s.gens[g]? = some gs →
      (∀ s'' H'', W i H'' → GI X GA sB HB x y cenv fp tn a (gOb g nm qn) rv i H'' s'' → gs.Goes (model X.prog X.w) X.A.in1.in1 (fun n s₀ r s₁ => r = .ok .next ∧ GP X GA sB HB x y cenv fp a (gOb g nm qn) rv Q n s₀ s₁) (GY X GA sB HB x y cenv fp tn a (gOb g nm qn) rv Q W n0) n (.send .none) s'') →
      (∀ v s₁ gs', gs'.bare = true → g < s₁.gens.size → GY X GA sB HB x y cenv fp tn a (gOb g nm qn) rv Q W n0 (n - 1) (s.setGen g .running) v s₁ (fun r' s'' => match n with
          | 0 => False
          | m + 1 => gs'.Goes (model X.prog X.w) X.A.in1.in1 (fun n s₀ r s₁ => r = .ok .next ∧ GP X GA sB HB x y cenv fp a (gOb g nm qn) rv Q n s₀ s₁) (GY X GA sB HB x y cenv fp tn a (gOb g nm qn) rv Q W n0) m r' s'') →
        v = .bool true → codeAny (model X.prog X.w) X.A (.builtin "all.loop" ⟨[.ref a], []⟩) R (s₁.setGen g gs')) →
      codeAny (model X.prog X.w) X.A (.builtin "all.loop" ⟨[.ref a], []⟩) R s := by
    intro n i s H gs hn hW hG hgs hgo next
    have hgl : g < s.gens.size := (Array.getElem?_eq_some_iff.mp hgs).1
    refine codeAny_builtin F.entry_all_loop ?_
    rw [Around.under_plainId F.plain_all_loop _]
    show wpAny _ X.A.in1 (pyNext (.ref a) >>= _) _ _ s
    have lim : s.heap.NoLimit := by
      obtain ⟨⟨σ2, I⟩, _⟩ := hG
      exact I.nolimit
    refine wpAny_bind (wpAny_gsz (n := g + 1) hgl (wpAny_pyNext_genexpQ (A := X.A.in1) (P := GP X GA sB HB x y cenv fp a (gOb g nm qn) rv Q) hr.hd lim hr.depth (isGen hG.1) hgs (hgo _ H hW (hG.gens rfl)) (fun v s₁ gs' hb hv => ?_) (fun s₁ hp h' hk => ?_)))
    · intro hsz
      have hsz1 : g < s₁.gens.size := by
        have q : (s₁.setGen g gs').gens.size = s₁.gens.size := setGen_size _ _ _
        have hsz' : g + 1 ≤ (s₁.setGen g gs').gens.size := hsz
        omega
      have nx := next v s₁ gs' hb hsz1 hv
      obtain ⟨i', H', _, G', h'⟩ := hv
      rcases h' with ⟨rfl, w', _⟩ | ⟨rfl, q'⟩
      · refine wpAny_bind (wpAny_holding (wpAny_truthy_bool ?_))
        refine wpAny_bind (wpAny_letGo ?_)
        simp only [if_true]
        exact wpAny_pure ⟨plainId_quiet F.plain_all_loop _, nx rfl⟩
      · refine wpAny_bind (wpAny_holding (wpAny_truthy_bool ?_))
        refine wpAny_bind (wpAny_letGo ?_)
        simp only [Bool.false_eq_true, if_false]
        refine wpAny_bind (wpAny_rule (wpAny_pure ?_))
        exact hR false H' _ q' (G'.1.gens hb)
    · intro _
      obtain ⟨H', I', q'⟩ := hp
      refine wpAny_bind (wpAny_rule (wpAny_pure ?_))
      exact hR true H' _ q' ((I'.gens (z := .finished) rfl).heap hk)
  intro n
  induction n with
  | zero =>
    intro i s H gs hn hW hG hgs hgo
    refine main 0 i s H gs hn hW hG hgs hgo fun v s₁ gs' hb hsz hv e => ?_
    obtain ⟨i', H', _, G', h'⟩ := hv
    rcases h' with ⟨_, w', k⟩ | ⟨e2, _⟩
    · exact (k s₁ H' w' G').elim
    · rw [e] at e2
      cases e2
  | succ n ih =>
    intro i s H gs hn hW hG hgs hgo
    refine main (n + 1) i s H gs hn hW hG hgs hgo fun v s₁ gs' hb hsz hv e => ?_
    obtain ⟨i', H', hi', G', h'⟩ := hv
    rcases h' with ⟨_, w', k⟩ | ⟨e2, _⟩
    · exact ih i' _ H' gs' hi' w' (G'.gens hb) (setGen_at hsz) fun s'' H'' hW'' hG'' => k s'' H'' hW'' hG''
    · rw [e] at e2
      cases e2
end
end AG
namespace AG
open PySem PySem.Spec PyProof.Rows L2 GenW
open LamX (TabB TabS Tabs ExtN CodeO codeO_ne inv_table among_app)
section
variable {X : Cx} {elt iter : Expr} {x y : Str} {px gpos pos : Pos} {scope : Scope} {te : TE} {ti : TI} {pins : List (Addr × Obj)} {σ : L2.St} {H : Hp} {s : Shared}
/-- the generator at a is made, in the state s5 -/
def Ready (X : Cx) (elt iter : Expr) (x y : Str) (px : Pos) (scope : Scope) (gpos : Pos) (pins : List (Addr × Obj)) (σ : L2.St) (Ts : List (Addr × Str)) (rv : V) (J : It) (H1 : Hp) (a : Addr) (s5 : Shared) : Prop :=
  ∃ (it : Addr) (fp : List Addr) (tn : Nat → Heap → Prop) (sB : Shared) (HB : Hp) (cl : List (Str × Addr)) (C : Addr) (code : Value) (g : Nat) (nm qn : Value),
    (ExtN H1 HB ∧ Tabs Ts HB) ∧ Turn X.prog X.w X.K (.Name x px) J fp it tn ∧ (∀ b ∈ fp, a ≠ b) ∧ Inv X pins σ HB sB ∧ (∀ b ∈ fp, FpOk X pins HB b) ∧ 
    GI X (gAr X.A elt iter x px scope gpos it (genEnv scope cl C code builtinsNs X.env)) sB HB x y (genEnv scope cl C code builtinsNs X.env) fp tn a (gOb g nm qn) rv 0 HB s5 ∧
    s5.gens[g]? = some (.fresh (.compStart (gExp elt iter x px scope gpos) 0 (.ref it) .none (genEnv scope cl C code builtinsNs X.env)))
theorem room_gAr {A : Around} {k : Nat} {it : Addr} {cenv : Env} (r : Room (k + 1) A) : Room k (gAr A elt iter x px scope gpos it cenv) :=
  ⟨r.hd, by have := r.dp; show A.depth + 0 + 1 + 3 * k + 5 < _; omega, by have := r.un; show A.units + 1 + 1 + 0 + 3 + 16 * k + 200 < _; omega⟩
theorem gen_any {Ts : List (Addr × Str)} {c P : Addr} {iy : Nat} {rv : V} {k : Nat} {Q' : Value → Shared → Prop} {R : It → Hp → Prop}
    (hr : Room k X.A) (TB : TabB X.base X.mg c P) (hmT : (P, X.env.qual ++ "<genexpr>") ∈ Ts) (hu : ∀ p ∈ Ts, p.1 = P → p.2 = X.env.qual ++ "<genexpr>") (hcode : X.env.code = .ref c) (S : GSc scope x y) (hN : X.N[iy]? = some y) (hk : X.env.kindOf y = some .cell) (hrv : σ[iy]? = some (some rv)) (hi : PI X (.Name x px) iter ti)
    (hs : ∀ v, genFold iter X.env v = pure v) (I : Inv X pins σ H s) (h : ti σ H fun J H1 => Tabs Ts H1 ∧ R J H1)
    (hQ : ∀ J H1 a s5, R J H1 → Ready X elt iter x y px scope gpos pins σ Ts rv J H1 a s5 → Q' (.ref a) s5) :
    wpAny (model X.prog X.w) X.A (eval (gExp elt iter x px scope gpos) X.env) Q' X.xe s := by
  obtain ⟨cy, hcy⟩ := I.ok.has y (.inl hk)
  have hfree : ∀ z ∈ scope.names, z.2 = .free → ∃ c, X.env.cells.lookup z.1 = some c := fun z hz e => by
    rw [S.only z hz e]
    exact ⟨cy, hcy⟩
  have hcl : cloFrom X.env.cells scope.names [] = [(y, cy)] := by
    rw [S.clo, hcy]
    rfl
  have one : ∀ {z c'}, ([(y, cy)] : List (Str × Addr)).lookup z = some c' → z = y ∧ c' = cy := fun {z c'} e => by
    rw [List.lookup_cons] at e
    split at e
    · rename_i hb
      exact ⟨eq_of_beq hb, (Option.some.inj e).symm⟩
    · cases e
  have oney : ([(y, cy)] : List (Str × Addr)).lookup y = some cy := by
    rw [List.lookup_cons, beq_self_eq_true]
  refine wpAny_GeneratorExp_make (cl := cloFrom X.env.cells scope.names []) S.co (closure_ok hfree) S.cell S.dot S.kind hr.depth ?_ hs
  refine thn (hi.run pins s σ H _ I h) fun xv s1 h1 => thn h1 fun itv s2 h2 => ?_
  obtain ⟨it, fp, tn, J, H2, rfl, I2, T, st2, f2, hT, hRJ⟩ := h2
  obtain ⟨ps, hP, ht, ha⟩ := hT _ hmT
  refine ⟨I2.nolimit, ?_⟩
  have hPs : s2.heap.get? P = some { cls := .none, data := .fields ps } := I2.hok P _ hP
  have hPlt : P < s2.heap.objs.size := Heap.lt_size hPs
  have cd : PySem.W.CodeHd s2.heap c P := TB.code.keeps fun b u e => I2.bk b u e
  have nfp : ∀ b ∈ fp, b ≠ P := fun b hb z => by
    have := (f2 b hb).1
    rw [z, hP] at this
    cases this
  have cont : ∀ (code : Value) (h3 : Heap) (tk : Nat) (H4 : Hp), Inv X pins σ H4 { s2 with heap := h3, gens := s2.gens, drawn := s2.drawn, toks := tk } → s2.heap.objs.size ≤ h3.objs.size → (∀ b ∈ fp, H4 b = none) → (∀ b ∈ fp, ∀ o, s2.heap.get? b = some o → h3.get? b = some o) → ExtN H2 H4 → Tabs Ts H4 →
      wpAny (model X.prog X.w) X.A (builtinsFor X.env.globals X.env.builtins) (fun bi s₄ =>
        ∀ h', h'.Ns s₄.heap.objs.size (fun y => if y = ".0" then some (.ref it) else none) → Heap.SameBut s₄.heap.objs.size (s₄.heap.push { cls := .type "frame", data := .dict #[] }) h' →
          Q' (.ref h'.objs.size) { s₄ with
            gens := s₄.gens.push (.fresh (.compStart (gExp elt iter x px scope gpos) 0 (.ref it) .none (genEnv scope (cloFrom X.env.cells scope.names []) s₄.heap.objs.size code bi X.env))),
            toks := s₄.toks + 1 + 1 + 1,
            heap := h'.push { cls := .type "generator", data := .fields #[.int s₄.gens.size 0, .str "<genexpr>" (s₄.toks + 1), .str (X.env.qual ++ "<genexpr>") (s₄.toks + 1 + 1)] } }) X.xe { s2 with heap := h3, toks := tk } := by
    intro code h3 tk H4 J4 hsz nf4 kp4 eN T4
    obtain ⟨bm, ob, e1, e2, e3, e4, e5, e6, e7, e8⟩ := TB.bm
    refine wpAny_builtinsFor (m := X.mg) (by rw [J4.ok.glob]; exact J4.mod.glob.keeps J4.bk) e1 e2 (J4.bk _ _ e5) e6 e7 e8 ?_
    intro h' hn' hs'
    have hsz' : h'.objs.size = h3.objs.size + 1 := by rw [hs'.1, Heap.size_push]
    have keep4 : ∀ b o, h3.get? b = some o → h'.get? b = some o := fun b o e => hs'.extBut b o (Nat.ne_of_lt (Heap.lt_size e)) (Heap.get?_push_of_some _ e)
    have keep5 : ∀ b o, h3.get? b = some o → (h'.push { cls := .type "generator", data := .fields #[.int s2.gens.size 0, .str "<genexpr>" (tk + 1), .str (X.env.qual ++ "<genexpr>") (tk + 1 + 1)] }).get? b = some o := fun b o e => Heap.get?_push_of_some _ (keep4 b o e)
    have fpHB : ∀ b ∈ fp, FpOk X pins H4 b := fun b hb => ⟨nf4 b hb, (f2 b hb).2⟩
    have fplt : ∀ b ∈ fp, b < s2.heap.objs.size := fun b hb => by
      obtain ⟨o, e, _⟩ := T.obj _ _ st2 b hb
      exact Heap.lt_size e
    have stkLt : ∀ b ∈ frs X.stack, b < h3.objs.size := fun b hb => by
      obtain ⟨_, o, e, _⟩ := J4.stack.mem hb
      exact Heap.lt_size e
    refine hQ J H2 h'.objs.size _ hRJ ⟨it, fp, tn, { s2 with heap := h3, gens := s2.gens, drawn := s2.drawn, toks := tk }, H4, cloFrom X.env.cells scope.names [], h3.objs.size, code, s2.gens.size, .str "<genexpr>" (tk + 1), .str (X.env.qual ++ "<genexpr>") (tk + 1 + 1), ⟨eN, T4⟩, T, fun b hb z => ?_, J4, fpHB, ⟨⟨none, ?_⟩, ?_, fun b hb => (fpHB b hb).1⟩, ?_⟩
    · have h1 := fplt b hb
      have h4 : h'.objs.size < s2.heap.objs.size := by
        rw [z]
        exact h1
      omega
    · refine ⟨⟨J4.ok.mod, S.kind, J4.ok.glob, rfl, Nat.le_refl _, fun a b d ea eb => ?_, fun a ha => ?_, (fun a d z => nomatch z), fun _ => hr.hd, ?_, .inr ⟨rfl, rfl⟩, fun b hb => ⟨?_, fun a d ea z => ?_⟩, J4.bs, Nat.le_trans J4.ok.bsz J4.sz, fun b o e hb => ?_, fun b hb z => ?_, J4.stack, J4.stkFree⟩, rfl, J4.bare.push rfl, Un.kept keep5, ⟨_, hn'.push _, fun i z v h1 h2 hv => ?_⟩, fun a d ea => ?_, J4.hok.fresh (Nat.le_refl _), fun a d ea => ?_, fun p hp => ?_, J4.hok.kept keep5, rfl⟩
      · have ea' : (cloFrom X.env.cells scope.names []).lookup a = some d := ea
        have eb' : (cloFrom X.env.cells scope.names []).lookup b = some d := eb
        rw [hcl] at ea' eb'
        rw [(one ea').1, (one eb').1]
      · show ∃ c, (cloFrom X.env.cells scope.names []).lookup a = some c
        rw [hcl]
        have ha' : scope.names.lookup a = some .cell ∨ scope.names.lookup a = some .free := ha
        rcases ha' with e | e
        · exact absurd rfl (S.cell _ (lookup_mem e))
        · have := S.only _ (lookup_mem e) rfl
          rw [show a = y from this]
          exact ⟨cy, oney⟩
      · show (gAr X.A elt iter x px scope gpos it _).frames = _
        have fr : X.A.in1.in1.frames = some X.stack := J4.ok.frames
        show pushEnvs (Code.envs (gLoop elt iter x px scope gpos it (genEnv scope (cloFrom X.env.cells scope.names []) h3.objs.size code builtinsNs X.env))) (pushEnvs (envsOf (([] : List Frame).map Frame.where_)) X.A.in1.in1.frames) = _
        rw [fr]
        rfl
      · show b ≠ h3.objs.size
        have h1 := fplt b hb
        exact Nat.ne_of_lt (Nat.lt_of_lt_of_le h1 hsz)
      · have ea' : (cloFrom X.env.cells scope.names []).lookup a = some d := ea
        rw [hcl] at ea'
        exact (f2 b hb).2.2.2.2.1 y cy hcy ((one ea').2.symm.trans z)
      · rcases (f2 b hb).2.2.2.1 with z | z
        · exact I2.ok.noex b o e z
        · exact absurd (Nat.lt_of_lt_of_le (Heap.lt_size e) (Nat.le_trans I2.ok.bsz z)) (Nat.lt_irrefl _)
      · rcases List.mem_cons.mp (J4.stkSub b z) with q | q
        · exact (f2 b hb).2.1 q
        · exact (f2 b hb).2.2.1 q
      · match i, h1, h2 with
        | 0, h1, h2 =>
          cases h1
          cases h2
          obtain ⟨m0, hn0, hl0⟩ := J4.loc
          obtain ⟨u, ru, lk⟩ := hl0 iy y rv hN hrv (.inr (.inl hk))
          refine ⟨u, ru, .inr ⟨.inr S.fr, cy, ?_, ?_⟩⟩
          · show (cloFrom X.env.cells scope.names []).lookup y = some cy
            rw [hcl]
            exact oney
          · rcases lk with ⟨q, _⟩ | ⟨_, c', hc', hcc⟩
            · rw [hk] at q
              cases q
            · rw [hcy] at hc'
              cases hc'
              exact hcc.keeps keep5
        | 1, h1, h2 => cases h2
        | i + 2, h1, h2 => cases h1
      · have ea' : (cloFrom X.env.cells scope.names []).lookup a = some d := ea
        rw [hcl] at ea'
        rw [(one ea').2]
        obtain ⟨v, z⟩ := J4.cell y cy hcy
        exact ⟨v, z.keeps keep5⟩
      · have ea' : (cloFrom X.env.cells scope.names []).lookup a = some d := ea
        rw [hcl] at ea'
        rw [(one ea').2]
        exact J4.freeC y cy hcy
      · rcases List.mem_cons.mp (show p ∈ [(h'.objs.size, gOb s2.gens.size _ _)] from hp) with rfl | hp
        · refine ⟨Heap.get?_push_size _ rfl, J4.hok.fresh (by show h3.objs.size ≤ h'.objs.size; omega), ?_, fun z => ?_, fun v z => nomatch z⟩
          · show h'.objs.size ≠ h3.objs.size
            omega
          · have h1 := stkLt _ z
            have h2 : (h'.objs.size : Nat) < h3.objs.size := h1
            omega
        · cases hp
    · exact T.keep _ _ _ st2 fun b hb o e => keep5 b o (kp4 b hb o e)
    · exact Array.getElem?_push_size ..
  cases hf : codeAmong gpos ps.toList with
  | none =>
    refine wpAny_genexprCodeX hcode (cd.code hPs ht) (cd.tab hPs) hf fun c' h' tk hx hge hlt hco' hrec htab' _ => ?_
    obtain ⟨o1, vs, f1, tf, fl, tg, inF, tx, tt, op, _, _, _, _, _, _, _, _, _, htr, _⟩ := hco'
    obtain ⟨c2, oc, vs2, t2, e2, hoc, hd, hv⟩ := hrec
    cases e2
    have nC : H2 c' = none := I2.hok.fresh hge
    have I3 := inv_table (t' := tk) (more := #[rawInt gpos.line, rawInt gpos.col, .ref c']) (h' := h') I2 hP (fun b o hb e => hx b o hb e) htab'.2 hge ⟨oc, vs2, t2, hoc, hd, hv⟩
    have hE : ExtN H2 (upd (upd H2 P (.tbl (ps ++ #[rawInt gpos.line, rawInt gpos.col, .ref c']))) c' (CodeO c' (X.env.qual ++ "<genexpr>"))) := fun b o e n => by
      rw [upd_ne (ne_of_none e nC), upd_ne (fun z => n ps (Option.some.inj (e.symm.trans (by rw [z]; exact hP))))]
      exact e
    have eL : (ps ++ #[rawInt gpos.line, rawInt gpos.col, .ref c']).toList = ps.toList ++ [rawInt gpos.line, rawInt gpos.col, .ref c'] := by simp
    have fpc : ∀ b ∈ fp, b ≠ c' := fun b hb z => by
      obtain ⟨o, e, _⟩ := T.obj _ _ st2 b hb
      have h1 := Heap.lt_size e
      rw [z] at h1
      exact absurd (Nat.lt_of_lt_of_le h1 hge) (Nat.lt_irrefl _)
    refine cont _ h' tk _ I3 (Nat.le_trans hge (Nat.le_of_lt hlt)) (fun b hb => by rw [upd_ne (fpc b hb), upd_ne (nfp b hb)]; exact (f2 b hb).1) (fun b hb o e => hx b o (nfp b hb) e) hE fun p hp => ?_
    by_cases hb : p.1 = P
    · rw [hu p hp hb, hb]
      refine ⟨_, by rw [upd_ne (ne_of_none hP nC), upd_same], by rw [eL]; exact PySem.TriplesOk_snoc _ _ _ _ ht, fun p' cv hcv => ?_⟩
      rw [eL] at hcv
      rcases among_app _ ht hcv with z | z
      · obtain ⟨c0, e1, e2⟩ := ha p' cv z
        exact ⟨c0, e1, hE _ _ e2 codeO_ne⟩
      · exact ⟨c', z, upd_same⟩
    · obtain ⟨ps', a1, a2, a3⟩ := hT p hp
      refine ⟨ps', by rw [upd_ne (ne_of_none a1 nC), upd_ne hb]; exact a1, a2, fun p' cv hcv => ?_⟩
      obtain ⟨c0, e1, e2⟩ := a3 p' cv hcv
      exact ⟨c0, e1, hE _ _ e2 codeO_ne⟩
  | some cv =>
    refine wpAny_genexprCode_hit hcode (cd.code hPs ht) hf ?_
    exact cont cv s2.heap s2.toks H2 (I2.kept (t' := s2.toks) fun _ _ e => e) (Nat.le_refl _) (fun b hb => (f2 b hb).1) (fun b hb o e => e) (ExtN.refl _) hT
/-- all(test for x in e): the name y of the def's is read in it; behind it the def's table may have grown -/
def tAllG (Ts : List (Addr × Str)) (iy : Nat) (ti : TI) (te : TE) : TE := fun σ H Q => ∃ rv, σ[iy]? = some (some rv) ∧ ti σ H fun J H1 => Tabs Ts H1 ∧ ∃ (W : Nat → Hp → Prop) (n0 : Nat), (∀ H2, ExtN H1 H2 → Tabs Ts H2 → W 0 H2) ∧ Walk J Q W te rv n0
theorem pe_allG {Ts : List (Addr × Str)} {c P : Addr} {p : Pos} {iy : Nat} {k : Nat} (hr : Room (k + 1) X.A) (hg : Gl X "all") (hm : X.mg "all" = none) (hb : bootBuiltins "all" = some (.builtin "all")) (TB : TabB X.base X.mg c P) (hmT : (P, X.env.qual ++ "<genexpr>") ∈ Ts) (hu : ∀ p ∈ Ts, p.1 = P → p.2 = X.env.qual ++ "<genexpr>") (hcode : X.env.code = .ref c) (S : GSc scope x y) (hN : X.N[iy]? = some y) (hk : X.env.kindOf y = some .cell)
    (hi : PI X (.Name x px) iter ti) (hel : ∀ (GA : Around), Room k GA → ∀ (s : Shared) (H : Hp) (cl : List (Str × Addr)) (C : Addr) (code : Value) (fp : List Addr), PE (gx X GA s H [y, x] (genEnv scope cl C code builtinsNs X.env) fp) elt te)
    (hs : ∀ v, genFold iter X.env v = pure v)
    (he : starEach [gExp elt iter x px scope gpos] X.env = (false, eval (gExp elt iter x px scope gpos) X.env) :: starEach [] X.env := by rfl) :
    PE X (.Call (.Name "all" p) [gExp elt iter x px scope gpos] [] pos) (tAllG Ts iy ti te) := by
  refine ⟨fun pins s σ H Q I h => ?_⟩
  obtain ⟨rv, hrv, h⟩ := h
  refine wpAny_Call_Name_kw (ld_blt I hg hm hb ?_)
  refine PyProof.Rows.callWith_builtin1 ?_ he (by rfl)
  rw [he]
  show wpAny _ _ (spliced ((false, eval (gExp elt iter x px scope gpos) X.env) :: backTo pos (starEach [] X.env))) _ _ s
  refine Calls.spliced_cons (gen_any hr TB hmT hu hcode S hN hk hrv hi hs I h fun J H1 a s5 hq hG => ?_)
  obtain ⟨it, fp, tn, sB, HB, cl, C, code, g, nm, qn, tabd, T, hap, JB, fpB, G0, hgs⟩ := hG
  obtain ⟨W, n0, w0, walk⟩ := hq
  refine Calls.spliced_nil ?_
  refine call_function_tree F.kind_all F.plain_all F.entry_all (F.args_all1 _) ?_
  unfold Builtin.«all»
  refine wpAny_bind (m := oneArg "all" _) (wpAny_pure ?_)
  refine wpAny_bind (wpAny_pyIter_gen (isGen G0.1) ?_)
  refine wpAny_pure ⟨plainId_quiet F.plain_all_loop _, ?_⟩
  refine all_loop (W := W) (Q := Q) (n0 := n0) hr (fun b H' s' hq I' => ?_) n0 0 s5 HB _ (Nat.zero_add _) (w0 HB tabd.1 tabd.2) G0 hgs (fun s'' H'' hW'' hG'' => ⟨rfl, seg_start rfl S T hap (hel _ (room_gAr hr) sB HB cl C code fp) walk _ _ H'' hW'' hG''⟩)
  obtain ⟨σ2, I'⟩ := I'
  exact ⟨.bl b, H', JB.call' (ch := fp) I'.os I'.base I'.hok I'.bare fun b hb => ⟨(fpB b hb).2.2.2.1, (fpB b hb).2.1, (fpB b hb).2.2.2.2.1, (fpB b hb).2.2.2.2.2⟩, rfl, hq⟩
end
end AG
namespace Say
open PySem PySem.Spec PyProof.Rows L2
def saysAll (rs : List Rule) (ss : List Exc) : Bool := ss.all fun e => decide (sayW rs e.1 = some e.2)
theorem RulesAtL.extN {H H' : Hp} {R : Addr} {rs : List Rule} (h : RulesAtL H R rs) (e : LamX.ExtN H H') : RulesAtL H' R rs := by
  obtain ⟨ts, h1, h2⟩ := h
  exact ⟨ts, e _ _ h1 (by intro _ z; cases z), paired_mono (fun t ρ q => e _ _ q (by intro _ z; cases z)) h2⟩
theorem SampsAt.extN {H H' : Hp} {S : Addr} {ss : List Exc} (h : SampsAt H S ss) (e : LamX.ExtN H H') : SampsAt H' S ss := by
  obtain ⟨ts, h1, h2⟩ := h
  exact ⟨ts, e _ _ h1 (by intro _ z; cases z), paired_mono (fun t ρ q => e _ _ q (by intro _ z; cases z)) h2⟩
abbrev sAre : Stmt := topS 40
def qAre : Str := (PySem.W.envX "are_said" (defScope sAre) 0 0 (.ref 0) []).qual ++ "<genexpr>"
theorem scAre : FnScope ["rules", "samples"] ["rules", "samples"] (defScope sAre) := ⟨rfl, rfl, rfl, by decide +kernel, rfl, by decide +kernel, by decide +kernel⟩
def spAre (Ts : List (Addr × Str)) : Sp := fun vs H Q _ => ∃ (R S : Addr) (rs : List Rule) (ss : List Exc), vs = [.ref R, .ref S] ∧ RulesAtL H R rs ∧ (∀ ρ ∈ rs, RlOk ρ) ∧ SampsAt H S ss ∧ (∀ e ∈ ss, e.1.length ≤ 80) ∧ LamX.Tabs Ts H ∧
  ∀ (H' : Hp), LamX.ExtN H H' → LamX.Tabs Ts H' → Q (.bl (saysAll rs ss)) H'
section
variable {P : Program} {w : World} {K : PySem.W.Frag} {mg : Str → Option Value} {base : Heap}
theorem ok_are {f cT PT : Addr} {oc : Value} {od an : Option Addr} {osl : Array (Option Value)} {kV doc pm ct : Value} {Ts : List (Addr × Str)}
    (lk : K.lookup f = some ⟨oc, od, .func (PySem.W.fnOf "are_said" "are_said" (defArgs sAre) (defBody sAre) (defScope sAre) .none kV doc pm an (.ref cT) ct), osl⟩) (hcd : PySem.W.codeIn K (.ref cT) "are_said" = true)
    (TB : LamX.TabB base mg cT PT) (hmT : (PT, qAre) ∈ Ts) (hu : ∀ p ∈ Ts, p.1 = PT → p.2 = qAre) (B : Bn mg) (DI : Df P w K mg base "is_said" ["rules", "sample"] 7 spIsSaidL) :
    FnOk P w K mg base CX0 9 f (PySem.W.fnOf "are_said" "are_said" (defArgs sAre) (defBody sAre) (defScope sAre) .none kV doc pm an (.ref cT) ct) ["rules", "samples"] (spAre Ts) := by
  obtain ⟨fI, fdI, GI, kI, bI, mI⟩ := DI
  refine fn_of lk hcd scAre (fun vs H Q E h => ?_) (fun A outer s H vs Q E hr h => ?_)
  · obtain ⟨R, S, rs, ss, rfl, _⟩ := h
    rfl
  · obtain ⟨R, S, rs, ss, rfl, hR, ho, hS, hs, hT, q⟩ := h
    suffices hh : ∃ tt, PSs (cxOf CX0 P w K mg base ["rules", "samples"] "are_said" (defScope sAre) f (.ref cT) A outer s H E).nox (defBody sAre) tt ∧ tt { nx := fun _ H' => Q .non H', rt := Q } (start ["rules", "samples"] [.ref R, .ref S]) H by
      obtain ⟨tt, h1, h2⟩ := hh
      exact ⟨tt, h1.nox, h2⟩
    have hr8 : Room 8 _ := hr
    refine ⟨_, pss_one (ps_ret (AG.pe_allG (k := 7) (Ts := Ts) (iy := 0) (x := "sample") (y := "rules") (te := tCall spIsSaidL [] E0 (tCons (tVar 0) (tCons (tVar 1) tNil))) hr8 (by rfl) B.all (by decide +kernel) TB hmT hu rfl
      (by exact ⟨rfl, rfl, by decide +kernel, rfl, rfl, rfl, by decide +kernel, fun _ => rfl, by decide +kernel⟩) rfl rfl (pi_list (pv 1)) (fun GA hrG s H cl C code fp => pe_call GI hrG (by rfl) mI kI bI .nil pass0 (pa_cons (pv 0) (pa_cons (pv 1) pa_nil))) (fun _ => rfl))), ?_⟩
    obtain ⟨ts, hSl, hSp⟩ := id hS
    refine ⟨_, rfl, _, rfl, S, rfl, ⟨_, .inl (.inl hSl)⟩, hT, ?_⟩
    refine ⟨fun i H2 => i ≤ ss.length ∧ LamX.ExtN H H2 ∧ LamX.Tabs Ts H2 ∧ ∀ j e, j < i → ss[j]? = some e → sayW rs e.1 = some e.2, ss.length, fun H2 e2 T2 => ⟨Nat.zero_le _, e2, T2, fun j e hj => absurd hj (Nat.not_lt_zero j)⟩, fun i H2 ⟨hi, e2, T2, hall⟩ => ?_⟩
    have hS2 : SqL K H2 S (ts.map V.ref) := .inl (.inl (e2 _ _ hSl (by intro _ z; cases z)))
    by_cases hlt : i < ss.length
    · have hti : i < ts.length := by rw [paired_len hSp]; exact hlt
      refine .inr ⟨hlt, ⟨_, .ref ts[i], hS2, by rw [List.getElem?_map, List.getElem?_eq_getElem hti]; rfl⟩, fun v H3 ⟨e3, y⟩ => ?_⟩
      subst e3
      have g2 := y _ hS2
      rw [List.getElem?_map] at g2
      obtain ⟨a, ha, ea⟩ := Option.map_eq_some_iff.mp g2
      subst ea
      obtain ⟨e, he, hat⟩ := paired_at hSp ha
      refine ⟨_, rfl, _, rfl, R, a, rs, e, rfl, hR.extN e2, ho, e2 _ _ hat (by intro _ z; cases z), hs e (List.mem_of_getElem? he), fun H4 s4 => ?_⟩
      by_cases c : sayW rs e.1 = some e.2
      · refine .inl ⟨by rw [decide_eq_true c], hlt, e2.trans (.of s4), T2.ext s4, fun j e' hj hj' => ?_⟩
        by_cases ej : j = i
        · subst ej
          rw [he] at hj'
          cases hj'
          exact c
        · exact hall j e' (by omega) hj'
      · refine .inr ⟨by rw [decide_eq_false c], ?_⟩
        have := q H4 (e2.trans (.of s4)) (T2.ext s4)
        have ea : saysAll rs ss = false := by
          refine Bool.eq_false_iff.mpr fun z => c ?_
          exact of_decide_eq_true (List.all_eq_true.mp z e (List.mem_of_getElem? he))
        rw [ea] at this
        exact this
    · refine .inl ⟨⟨_, hS2, by rw [List.length_map, paired_len hSp]; omega⟩, ?_⟩
      have := q H2 e2 T2
      have ea : saysAll rs ss = true := List.all_eq_true.mpr fun e he => by
        obtain ⟨j, hj⟩ := List.mem_iff_getElem?.mp he
        have hjl := (List.getElem?_eq_some_iff.mp hj).1
        exact decide_eq_true (hall j e (by omega) hj)
      rw [ea] at this
      exact this
end
end Say
namespace Say
open PySem PySem.Spec PyProof.Rows L2
def natsV (ks : List Nat) : List V := ks.map fun k => V.int (k : Nat)
end Say
namespace PySem
namespace CB
open PySem.Spec PyProof.Rows
/-! ### what the tables say of combinations -/
abbrev cN : String := "itertools.combinations"
theorem mro_c : mroOf (.type "itertools.combinations") = pure [.type "itertools.combinations", .type "object"] := by rw [mroOf_type]; kernel_rfl
theorem look_new : typeLookup (.type "itertools.combinations") "__new__" = pure (some (.builtin "itertools.combinations.__new__")) := by rw [typeLookup_type, builtinLookup_eq_fast]; kernel_rfl
theorem slot_init : Slot "itertools.combinations" "__init__" "object.__init__" :=
  .of (owner := "object") (n := "__init__") (by rw [typeLookup_type, builtinLookup_eq_fast]; kernel_rfl) (by decide +kernel) (by decide +kernel) (by decide +kernel)
    (by first | exact .inl (by decide +kernel) | exact .inr (by decide +kernel)) (by rw [isSubtype_type]; kernel_rfl)
theorem called : TypeCalled "itertools.combinations" "itertools.combinations.__new__" "object.__init__" :=
  ⟨by decide +kernel, by decide +kernel, ⟨_, _, mro_c⟩, madeBy_type mro_c look_new (by decide +kernel), by decide +kernel, by rw [isSubtype_type]; kernel_rfl, slot_init⟩
theorem typeCall2 (a b : Value) : checkTypeCall "itertools.combinations" ⟨[a, b], []⟩ = pure () := by kernel_rfl
theorem newCall2 (a b : Value) : checkBuiltinCall "itertools.combinations.__new__" ⟨[.type "itertools.combinations", a, b], []⟩ = pure () := by kernel_rfl
theorem entry_new : entryFor table "itertools.combinations.__new__" = some Builtin.«itertools.combinations.__new__» := entryFor_of_tree (by kernel_rfl)
theorem entry_next : entryFor table "itertools.combinations.__next__" = some Builtin.«itertools.combinations.__next__» := entryFor_of_tree (by kernel_rfl)
theorem slot_next : Slot "itertools.combinations" "__next__" "itertools.combinations.__next__" :=
  .of (owner := "itertools.combinations") (n := "__next__") (by rw [typeLookup_type, builtinLookup_eq_fast]; kernel_rfl) (by decide +kernel) (by decide +kernel) (by decide +kernel)
    (by first | exact .inl (by decide +kernel) | exact .inr (by decide +kernel)) (by rw [isSubtype_type]; kernel_rfl)
theorem slot_iter : Slot "itertools.combinations" "__iter__" "itertools.combinations.__iter__" :=
  .of (owner := "itertools.combinations") (n := "__iter__") (by rw [typeLookup_type, builtinLookup_eq_fast]; kernel_rfl) (by decide +kernel) (by decide +kernel) (by decide +kernel)
    (by first | exact .inl (by decide +kernel) | exact .inr (by decide +kernel)) (by rw [isSubtype_type]; kernel_rfl)
theorem entry_iter : entryFor table "itertools.combinations.__iter__" = some Builtin.«dict_keyiterator.__iter__» :=
  entryFor_alias (id' := "dict_keyiterator.__iter__") (by kernel_rfl) (by first | rfl | decide +kernel | (unfold String.splitOn; simp +decide [String.splitOnAux])) (by decide +kernel) (by kernel_rfl)
theorem sub_c : isSubtype (.type "itertools.combinations") (.type "itertools.combinations") = pure true := by rw [isSubtype_type]; kernel_rfl
end CB
end PySem
namespace PySem
namespace CB
open PySem.Spec PyProof.Rows
theorem owner_c : Manifest.owners.lookup (String.ofList ['s', 'n', 'o', 'i', 't', 'a', 'n', 'i', 'b', 'm', 'o', 'c', '.', 's', 'l', 'o', 'o', 't', 'r', 'e', 't', 'i'].reverse) = some Manifest.sig_itertools_combinations := by kernel_rfl
theorem args_next_1 (a : Value) : argsOk "itertools.combinations.__next__" ⟨[a], []⟩ := by
  unfold argsOk; rw [signature?_of (id := "itertools.combinations.__next__") (n := ['_', '_', 't', 'x', 'e', 'n', '_', '_']) (o := ['s', 'n', 'o', 'i', 't', 'a', 'n', 'i', 'b', 'm', 'o', 'c', '.', 's', 'l', 'o', 'o', 't', 'r', 'e', 't', 'i']) (by kernel_rfl) owner_c]; kernel_rfl
theorem args_iter_1 (a : Value) : argsOk "itertools.combinations.__iter__" ⟨[a], []⟩ := by
  unfold argsOk; rw [signature?_of (id := "itertools.combinations.__iter__") (n := ['_', '_', 'r', 'e', 't', 'i', '_', '_']) (o := ['s', 'n', 'o', 'i', 't', 'a', 'n', 'i', 'b', 'm', 'o', 'c', '.', 's', 'l', 'o', 'o', 't', 'r', 'e', 't', 'i']) (by kernel_rfl) owner_c]; kernel_rfl
/-- the record of one that walks: the pool at P, the state, what was handed out last, the numbers -/
abbrev IsComb (h : Heap) (c P : Addr) (st : Int) (last : Value) (idx : List Nat) : Prop :=
  h.get? c = some { cls := .type "itertools.combinations", dict := none, data := .fields (([.ref P, rawInt st, last] ++ idx.map fun (i : Nat) => rawInt i).toArray), slots := #[] }
theorem meets_new (rg : Addr) (m : Nat) (t0 t1 t2 : Tok) (r : Nat) (tr : Tok) :
    Meets (Builtin.«itertools.combinations.__new__» ⟨[.type "itertools.combinations", .ref rg, .int (r : Nat) tr], []⟩) (fun A R s => A.handled = none ∧ IsRange s.heap rg 0 (m : Nat) 1 t0 t1 t2 ∧ m ≤ 1000 ∧ r ≤ 1000 ∧
      ∀ (h' : Heap) (tk : Nat) (acc : Array Value), (∀ b o, s.heap.get? b = some o → h'.get? b = some o) → ItemsOf (fun i v => ∃ t, v = .int (0 + i * 1) t) acc m →
        R (.ok (.ret (.ref (h'.objs.size + 1)))) { s with heap := (h'.push { cls := .type "tuple", data := .seq acc }).push { cls := .type "itertools.combinations", data := .fields (([.ref h'.objs.size, rawInt (if r > m then 2 else 0), .none] ++ (List.range r).map fun (i : Nat) => rawInt i).toArray) }, toks := tk }) :=
  .of_wp fun prog w A R s h => by
    obtain ⟨hh, hr, hm, hr1, h⟩ := h
    have hsub : isSubtype (.type "itertools.combinations") (.type ("itertools." ++ "combinations")) = pure true := by rw [show ("itertools." ++ "combinations" : String) = "itertools.combinations" from by decide +kernel]; exact sub_c
    have hh1 : A.in1.handled = none := hh
    have hsm : Builtin.Range.small 0 (m : Nat) 1 = true := small_one (by omega) (by omega) (by omega) (by omega)
    have hsz : Builtin.Range.rangeSize 0 (m : Nat) 1 = m := by rw [rangeSize_one]; split <;> omega
    obtain ⟨hp, g, d, tk, os⟩ := s
    wp_walk using L2.collect_range (A := A.in1) hh1 hr hsm hsz (by omega)
    rw [if_neg (by simp; omega)]
    wp_walk using L2.collect_range (A := A.in1) hh1 hr hsm hsz (by omega)
    intro h' tk' acc hk hacc
    rw [if_neg (by omega)]
    have tm : Builtin.Itertools.itTooMany (r : Nat) = false := by
      unfold Builtin.Itertools.itTooMany
      exact decide_eq_false (by omega)
    wp_walk
    have es : acc.toList.toArray = acc := by simp
    rw [es, if_neg (by rw [hacc.1, sizeLine_eq]; omega)]
    have el : acc.toList.length = m := by rw [Array.length_toList, hacc.1]
    rw [el, show ((r : Nat) : Int).toNat = r from Int.toNat_natCast r]
    have td : typeHasDict (.type "itertools.combinations") = false := by kernel_rfl
    wp_walk
    rw [if_neg (by simp only [List.cons_append, List.nil_append, List.size_toArray, List.length_cons, List.length_map, List.length_range, sizeLine_eq]; omega)]
    wp_walk
    refine ⟨_, rfl, ?_⟩
    have hz : (h'.push { cls := Value.type "tuple", data := Data.seq acc }).objs.size = h'.objs.size + 1 := Heap.size_push ..
    have q := h h' tk' acc hk hacc
    rw [← hz] at q
    exact q
theorem args_init_3 (a b c : Value) : argsOk "object.__init__" ⟨[a, b, c], []⟩ := F.args_object_init_3 a b c
theorem call_comb {prog : Program} {w : World} {A : Around} {E : Value → Shared → Prop} {s : Shared} {rg : Addr} {m r : Nat} {t0 t1 t2 tr : Tok} {Q : Value → Shared → Prop} (hh : A.handled = none) (hr : IsRange s.heap rg 0 (m : Nat) 1 t0 t1 t2) (hm : m ≤ 1000) (hrm : r ≤ m)
    (h : ∀ (h0 h' : Heap) (tk : Nat) (acc : Array Value), (∀ b o, s.heap.get? b = some o → h0.get? b = some o) → (∀ b o, h0.get? b = some o → h'.get? b = some o) → ItemsOf (fun i v => ∃ t, v = .int (0 + i * 1) t) acc m →
      h'.get? h0.objs.size = some { cls := .type "tuple", data := .seq acc } → IsComb h' (h0.objs.size + 1) h0.objs.size 0 .none (List.range r) → Q (.ref (h0.objs.size + 1)) { s with heap := h', toks := tk }) :
    wpAny (model prog w) A (call (.type "itertools.combinations") [.ref rg, .int (r : Nat) tr]) Q E s := by
  refine callType_new called (by decide) (typeCall2 _ _) (newCall2 _ _) (fun obj => args_init_3 obj _ _) entry_new (meets_new rg m t0 t1 t2 r tr) ⟨hh, hr, hm, Nat.le_trans hrm hm, fun h' tk acc hk hacc => ?_⟩
  rw [if_neg (by omega)]
  have hz : (h'.push { cls := Value.type "tuple", data := Data.seq acc }).objs.size = h'.objs.size + 1 := Heap.size_push ..
  have g2 : ((h'.push { cls := Value.type "tuple", data := Data.seq acc }).push { cls := .type "itertools.combinations", data := .fields (([.ref h'.objs.size, rawInt 0, .none] ++ (List.range r).map fun (i : Nat) => rawInt i).toArray) }).get? (h'.objs.size + 1) = some { cls := .type "itertools.combinations", data := .fields (([.ref h'.objs.size, rawInt 0, .none] ++ (List.range r).map fun (i : Nat) => rawInt i).toArray) } := by rw [← hz]; exact Heap.get?_push_size _ rfl
  have g1 : ((h'.push { cls := Value.type "tuple", data := Data.seq acc }).push { cls := .type "itertools.combinations", data := .fields (([.ref h'.objs.size, rawInt 0, .none] ++ (List.range r).map fun (i : Nat) => rawInt i).toArray) }).get? h'.objs.size = some { cls := .type "tuple", data := .seq acc } := Heap.get?_push_of_some _ (Heap.get?_push_size _ rfl)
  show _ ∧ _
  exact ⟨⟨_, g2, rfl⟩, h h' _ tk acc hk (fun b o e => Heap.get?_push_of_some _ (Heap.get?_push_of_some _ e)) hacc g1 g2⟩
end CB
end PySem
namespace CBM
/-- the next rising list of numbers below n -/
def nxt (n : Nat) : List Nat → Option (List Nat)
  | [] => none
  | a :: t => match nxt n t with
    | some t' => some (a :: t')
    | none => if a + (t.length + 1) = n then none else some ((List.range (t.length + 1)).map (a + 1 + ·))
/-- rising, from lo on, below n -/
def Rise (n : Nat) : Nat → List Nat → Prop
  | _, [] => True
  | lo, a :: t => lo ≤ a ∧ a < n ∧ Rise n (a + 1) t
def lt : List Nat → List Nat → Prop
  | a :: t, b :: u => a < b ∨ (a = b ∧ lt t u)
  | _, _ => False
theorem Rise.le {n : Nat} : ∀ {l : List Nat} {lo : Nat}, Rise n lo l → l ≠ [] → lo + l.length ≤ n
  | [], _, _, h => absurd rfl h
  | [a], lo, h, _ => by
    obtain ⟨h1, h2, _⟩ := h
    show lo + 1 ≤ n
    omega
  | a :: b :: t, lo, h, _ => by
    obtain ⟨h1, h2, h3⟩ := h
    have := Rise.le h3 (by simp)
    simp only [List.length_cons] at this ⊢
    omega
theorem Rise.mono {n : Nat} : ∀ {l : List Nat} {lo lo' : Nat}, Rise n lo l → lo' ≤ lo → Rise n lo' l
  | [], _, _, _, _ => trivial
  | _ :: _, _, _, h, e => ⟨Nat.le_trans e h.1, h.2⟩
theorem range_map {k b : Nat} : (List.range (k + 1)).map (b + ·) = b :: (List.range k).map (b + 1 + ·) := by
  rw [List.range_succ_eq_map]
  simp only [List.map_cons, List.map_map, Nat.add_zero]
  congr 1
  apply List.map_congr_left
  intro x _
  simp only [Function.comp_apply]
  omega
theorem rise_range {n : Nat} : ∀ {k b : Nat}, b + k ≤ n → Rise n b ((List.range k).map (b + ·))
  | 0, _, _ => trivial
  | k + 1, b, h => by
    rw [range_map]
    exact ⟨Nat.le_refl _, by omega, rise_range (by omega)⟩
theorem not_lt_range {n : Nat} : ∀ {k b : Nat} {l : List Nat}, Rise n b l → l.length = k → ¬ lt l ((List.range k).map (b + ·))
  | 0, b, l, h, e, q => by
    obtain rfl := List.length_eq_zero_iff.mp e
    exact q
  | k + 1, b, [], h, e, q => by cases e
  | k + 1, b, a :: t, h, e, q => by
    rw [range_map] at q
    rcases q with q | ⟨rfl, q⟩
    · have := h.1
      omega
    · exact not_lt_range h.2.2 (Nat.succ.inj e) q
theorem nxt_none {n : Nat} : ∀ {c l : List Nat} {lo : Nat}, nxt n c = none → Rise n lo c → Rise n lo l → l.length = c.length → l = c ∨ lt l c
  | [], l, lo, h, hc, hl, e => .inl (List.length_eq_zero_iff.mp e)
  | a :: t, [], lo, h, hc, hl, e => by cases e
  | a :: t, b :: u, lo, h, hc, hl, e => by
    unfold nxt at h
    split at h
    · cases h
    · rename_i ht
      split at h
      · rename_i ha
        have e1 : u.length = t.length := Nat.succ.inj e
        have hb := hl.le (by simp)
        have : b + (u.length + 1) ≤ n := Rise.le (lo := b) (l := b :: u) ⟨Nat.le_refl _, hl.2.1, hl.2.2⟩ (by simp)
        rcases Nat.lt_or_ge b a with q | q
        · exact .inr (.inl q)
        · have : b = a := by omega
          subst this
          rcases nxt_none ht hc.2.2 hl.2.2 e1 with q | q
          · exact .inl (by rw [q])
          · exact .inr (.inr ⟨rfl, q⟩)
      · cases h
theorem nxt_some {n : Nat} : ∀ {c c' : List Nat} {lo : Nat}, nxt n c = some c' → Rise n lo c → Rise n lo c' ∧ c'.length = c.length ∧ lt c c' ∧ ∀ l, Rise n lo l → l.length = c.length → lt l c' → l = c ∨ lt l c
  | [], c', lo, h, hc => by cases h
  | a :: t, c', lo, h, hc => by
    unfold nxt at h
    split at h
    · rename_i t' ht
      cases h
      obtain ⟨h1, h2, h3, h4⟩ := nxt_some ht hc.2.2
      refine ⟨⟨hc.1, hc.2.1, h1⟩, by simp [h2], .inr ⟨rfl, h3⟩, fun l hl e q => ?_⟩
      match l, hl, e with
      | b :: u, hl, e =>
        rcases q with q | ⟨eb, q⟩
        · exact .inr (.inl q)
        · subst eb
          rcases h4 u hl.2.2 (Nat.succ.inj e) q with z | z
          · exact .inl (by rw [z])
          · exact .inr (.inr ⟨rfl, z⟩)
    · rename_i ht
      split at h
      · cases h
      · rename_i ha
        cases h
        have hle : a + (t.length + 1) ≤ n := Rise.le (lo := a) (l := a :: t) ⟨Nat.le_refl _, hc.2.1, hc.2.2⟩ (by simp)
        refine ⟨(rise_range (by omega)).mono (by have := hc.1; omega), by simp, ?_, fun l hl e q => ?_⟩
        · rw [range_map]
          exact .inl (Nat.lt_succ_self a)
        · match l, hl, e with
          | b :: u, hl, e =>
            have e1 : u.length = t.length := Nat.succ.inj e
            rw [range_map] at q
            rcases q with q | ⟨eb, q⟩
            · rcases Nat.lt_or_ge b a with z | z
              · exact .inr (.inl z)
              · have : b = a := by omega
                subst this
                rcases nxt_none ht hc.2.2 hl.2.2 e1 with z | z
                · exact .inl (by rw [z])
                · exact .inr (.inr ⟨rfl, z⟩)
            · subst eb
              exact absurd q (not_lt_range hl.2.2 e1)
/-- what counts down -/
def val (n : Nat) : List Nat → Nat
  | [] => 0
  | a :: t => a * n ^ t.length + val n t
theorem val_lt {n : Nat} : ∀ {l : List Nat} {lo : Nat}, Rise n lo l → val n l < n ^ l.length
  | [], _, _ => by simp [val]
  | a :: t, lo, h => by
    have h1 := val_lt h.2.2
    have h2 : (a + 1) * n ^ t.length ≤ n * n ^ t.length := Nat.mul_le_mul_right _ h.2.1
    show a * n ^ t.length + val n t < n ^ (t.length + 1)
    rw [Nat.pow_succ, Nat.mul_comm (n ^ t.length) n]
    rw [Nat.add_mul, Nat.one_mul] at h2
    omega
theorem lt_val {n : Nat} : ∀ {l k : List Nat} {lo lo' : Nat}, Rise n lo l → Rise n lo' k → l.length = k.length → lt l k → val n l < val n k
  | [], [], _, _, _, _, _, q => q.elim
  | [], _ :: _, _, _, _, _, e, _ => by cases e
  | _ :: _, [], _, _, _, _, e, _ => by cases e
  | a :: t, b :: u, lo, lo', h, h', e, q => by
    have e1 : t.length = u.length := Nat.succ.inj e
    show a * n ^ t.length + val n t < b * n ^ u.length + val n u
    rw [e1]
    rcases q with q | ⟨rfl, q⟩
    · have h1 := val_lt h.2.2
      rw [e1] at h1
      have h2 : (a + 1) * n ^ u.length ≤ b * n ^ u.length := Nat.mul_le_mul_right _ q
      rw [Nat.add_mul, Nat.one_mul] at h2
      omega
    · have := lt_val h.2.2 h'.2.2 e1 q
      omega
/-- the form that the machine has it in -/
def mform (n : Nat) (c : List Nat) : Option (List Nat) := match (List.range c.length).reverse.find? fun i => c.getD i 0 != i + n - c.length with
  | none => none
  | some i => some (c.take i ++ (List.range (c.length - i)).map (c.getD i 0 + 1 + ·))
theorem mform_cons (n a : Nat) (t : List Nat) : mform n (a :: t) = match mform n t with
    | some t' => some (a :: t')
    | none => if a = n - (t.length + 1) then none else some ((List.range (t.length + 1)).map (a + 1 + ·)) := by
  have e1 : (List.range (a :: t).length).reverse = (List.range t.length).reverse.map (· + 1) ++ [0] := by
    rw [List.length_cons, List.range_succ_eq_map, List.reverse_cons, List.map_reverse]
  have e2 : ((List.range t.length).reverse.map (· + 1)).find? (fun i => (a :: t).getD i 0 != i + n - (a :: t).length) = ((List.range t.length).reverse.find? fun i => t.getD i 0 != i + n - t.length).map (· + 1) := by
    rw [List.find?_map]
    congr 2
    funext i
    simp only [Function.comp_apply, List.getD_cons_succ, List.length_cons]
    congr 1
    omega
  unfold mform
  rw [e1, List.find?_append, e2]
  cases h : (List.range t.length).reverse.find? fun i => t.getD i 0 != i + n - t.length with
  | some i =>
    simp only [Option.map_some, Option.some_or, List.take_succ_cons, List.length_cons, List.getD_cons_succ, List.cons_append]
    rw [Nat.add_sub_add_right]
  | none =>
    simp only [Option.map_none, Option.none_or, List.length_cons]
    by_cases ha : a = n - (t.length + 1)
    · rw [if_pos ha]
      have : List.find? (fun i => (a :: t).getD i 0 != i + n - (t.length + 1)) [0] = none := by
        rw [List.find?_cons]
        simp [ha]
      rw [this]
    · rw [if_neg ha]
      have : List.find? (fun i => (a :: t).getD i 0 != i + n - (t.length + 1)) [0] = some 0 := by
        have e : (a != n - (t.length + 1)) = true := by simpa using ha
        rw [List.find?_cons]
        simp only [List.getD_cons_zero, Nat.zero_add, e]
      rw [this]
      rfl
theorem nxt_form (n : Nat) : ∀ (c : List Nat) (lo : Nat), Rise n lo c → mform n c = nxt n c
  | [], _, _ => rfl
  | a :: t, lo, h => by
    rw [mform_cons n a t]
    have hle : a + (t.length + 1) ≤ n := Rise.le (lo := a) (l := a :: t) ⟨Nat.le_refl _, h.2.1, h.2.2⟩ (by simp)
    unfold nxt
    rw [nxt_form n t _ h.2.2]
    have : (a + (t.length + 1) = n) ↔ (a = n - (t.length + 1)) := by omega
    simp only [this]
end CBM
namespace PySem
namespace CB
open PySem.Spec PyProof.Rows
abbrev combO (P : Addr) (st : Int) (last : Value) (idx : List Nat) : Obj := { cls := .type "itertools.combinations", dict := none, data := .fields (([.ref P, rawInt st, last] ++ idx.map fun (i : Nat) => rawInt i).toArray), slots := #[] }
theorem set1 {P : Addr} {st k : Int} {last : Value} {idx : List Nat} : Obj.mapFields (fun x => x.setIfInBounds 1 (rawInt k)) (combO P st last idx) = combO P k last idx := by
  simp only [combO, Obj.mapFields, List.setIfInBounds_toArray]
  rfl
theorem set2 {P : Addr} {st : Int} {last v : Value} {idx : List Nat} : Obj.mapFields (fun x => x.setIfInBounds 2 v) (combO P st last idx) = combO P st v idx := by
  simp only [combO, Obj.mapFields, List.setIfInBounds_toArray]
  rfl
theorem set3 {P : Addr} {st : Int} {last : Value} {idx nx : List Nat} : Obj.mapFields (fun fs => fs.extract 0 3 ++ (nx.map fun (n : Nat) => rawInt n).toArray) (combO P st last idx) = combO P st last nx := by
  simp only [combO, Obj.mapFields]
  congr 1
  simp
theorem nums {P : Addr} {st : Int} {last : Value} {idx : List Nat} : (List.map (fun x => match x with | Value.int n tok => n.toNat | x => 0) (List.drop 3 ([Value.ref P, rawInt st, last] ++ List.map (fun (i : Nat) => rawInt i) idx).toArray.toList)) = idx := by
  show List.map _ (List.map _ idx) = idx
  rw [List.map_map]
  conv => rhs; rw [← List.map_id idx]
  apply List.map_congr_left
  intro x _
  rfl
theorem past_none {P : Addr} {st : Int} {last : Value} {idx : List Nat} (hl : idx.length ≤ 1000) : (combO P st last idx).data.pastItsLine = none := by
  unfold Data.pastItsLine
  simp only [combO]
  rw [if_neg]
  simp only [List.size_toArray, List.length_append, List.length_map, List.length_cons, List.length_nil, sizeLine_eq]
  omega
theorem P_ne {h : Heap} {c P : Addr} {st : Int} {last : Value} {idx : List Nat} {items : Array Value} (hc : h.get? c = some (combO P st last idx)) (hP : h.get? P = some { cls := .type "tuple", data := .seq items }) : P ≠ c := fun z => by
  rw [z, hc] at hP
  have e := congrArg Obj.cls (Option.some.inj hP)
  exact absurd (Value.type.inj e) (by decide)
section
variable {prog : Program} {w : World} {A : Around} {E : Value → Shared → Prop} {s : Shared}
theorem next_first {c P : Addr} {last : Value} {idx : List Nat} {items : Array Value} {Q : Fin → Shared → Prop} (hc : s.heap.get? c = some (combO P 0 last idx)) (hP : s.heap.get? P = some { cls := .type "tuple", data := .seq items }) (hl : idx.length ≤ 1000)
    (h : ∀ h' T, s.heap.objs.size ≤ T → h'.get? T = some { cls := .type "tuple", data := .seq (idx.map fun i => items.getD i .none).toArray } → h'.get? c = some (combO P 1 (.ref T) idx) → (∀ b o, b ≠ c → s.heap.get? b = some o → h'.get? b = some o) → Q (.done (.ret (.ref T))) { s with heap := h' }) :
    wpAny (model prog w) A (Builtin.«itertools.combinations.__next__» ⟨[.ref c], []⟩) Q E s := by
  obtain ⟨hp, g, d, tk, os⟩ := s
  have hc' : Heap.get? hp c = some (combO P 0 last idx) := hc
  have hP' : Heap.get? hp P = some { cls := .type "tuple", data := .seq items } := hP
  wp_walk using wpAny_field hc' rfl rfl
  have nPc := P_ne hc' hP'
  have hc1 : (hp.update c (Obj.mapFields fun x => x.setIfInBounds 1 (rawInt 1))).get? c = some (combO P 1 last idx) := by
    rw [Heap.get?_update_self _ hc' (by rw [set1]; rfl), set1]
  have k1 : ∀ b o, b ≠ c → hp.get? b = some o → (hp.update c (Obj.mapFields fun x => x.setIfInBounds 1 (rawInt 1))).get? b = some o := fun b o hb e => (Heap.SameBut.update ..).extBut b o hb e
  have sz1 : (hp.update c (Obj.mapFields fun x => x.setIfInBounds 1 (rawInt 1))).objs.size = hp.objs.size := (Heap.SameBut.update ..).1
  generalize hp.update c (Obj.mapFields fun x => x.setIfInBounds 1 (rawInt 1)) = h1 at hc1 k1 sz1 ⊢
  refine wpAny_load (show Heap.get? (Shared.heap ⟨h1, g, d, tk, os⟩) P = some { cls := .type "tuple", data := .seq items } from k1 P _ nPc hP') ?_
  refine wpAny_pure ?_
  refine wpAny_pure ?_
  refine Eq.mpr (congrArg (fun l => wpAny (model prog w) A (newTuple (List.map (fun i => items.getD i Value.none) l)) _ E _) (nums (P := P) (st := 0) (last := last) (idx := idx))) ?_
  refine wpAny_newTuple ?_ (by rw [List.length_map, sizeLine_eq]; omega)
  have hc2 : (h1.push { cls := .type "tuple", data := .seq (idx.map fun i => items.getD i .none).toArray }).get? c = some (combO P 1 last idx) := Heap.get?_push_of_some _ hc1
  refine wpAny_bind (wpAny_field (x := last) hc2 rfl rfl ?_)
  refine wpAny_bind (wpAny_setField hc2 rfl (by simp) ?_)
  refine wpAny_bind (wpAny_letGo (wpAny_pure ?_))
  have hTc : h1.objs.size ≠ c := Nat.ne_of_gt (Heap.lt_size hc1)
  refine h _ h1.objs.size (Nat.le_of_eq sz1.symm) ((Heap.SameBut.update ..).extBut _ _ hTc (Heap.get?_push_size _ rfl)) ?_ fun b o hb e => (Heap.SameBut.update ..).extBut b o hb (Heap.get?_push_of_some _ (k1 b o hb e))
  rw [Heap.get?_update_self _ hc2 (by rw [set2]; rfl), set2]
theorem next_more {c P : Addr} {last : Value} {idx nx : List Nat} {items : Array Value} {lo : Nat} {Q : Fin → Shared → Prop} (hc : s.heap.get? c = some (combO P 1 last idx)) (hP : s.heap.get? P = some { cls := .type "tuple", data := .seq items }) (hl : idx.length ≤ 1000)
    (hR : CBM.Rise items.size lo idx) (hn : CBM.nxt items.size idx = some nx)
    (h : ∀ h' T, s.heap.objs.size ≤ T → h'.get? T = some { cls := .type "tuple", data := .seq (nx.map fun i => items.getD i .none).toArray } → h'.get? c = some (combO P 1 (.ref T) nx) → (∀ b o, b ≠ c → s.heap.get? b = some o → h'.get? b = some o) → Q (.done (.ret (.ref T))) { s with heap := h' }) :
    wpAny (model prog w) A (Builtin.«itertools.combinations.__next__» ⟨[.ref c], []⟩) Q E s := by
  obtain ⟨hp, g, d, tk, os⟩ := s
  have hc' : Heap.get? hp c = some (combO P 1 last idx) := hc
  have hP' : Heap.get? hp P = some { cls := .type "tuple", data := .seq items } := hP
  have nPc := P_ne hc' hP'
  obtain ⟨hP2⟩ : Nonempty (Heap.get? hp P = some { cls := .type "tuple", data := .seq items }) := ⟨hP'⟩
  have hlen := (CBM.nxt_some hn hR).2.1
  wp_walk using wpAny_field hc' rfl rfl, wpAny_load hP'
  split
  · rename_i nx' heq
    obtain ⟨l, hle, e⟩ : ∃ l, l = idx ∧ CBM.mform items.size l = some nx' := ⟨_, nums (P := P) (st := 1) (last := last), heq⟩
    rw [hle] at e
    rw [CBM.nxt_form _ _ _ hR, hn] at e
    cases e
    clear hP' hP
    wp_walk using wpAny_load hc'
    split
    · rename_i what heq2
      exact absurd (show (Obj.mapFields (fun fs => fs.extract 0 3 ++ (nx.map fun (n : Nat) => rawInt n).toArray) (combO P 1 last idx)).data.pastItsLine = some what from heq2) (by
        rw [set3, past_none (by rw [hlen]; exact hl)]
        exact fun z => nomatch z)
    · refine wpAny_pure ?_
      have hc1 : (hp.update c (Obj.mapFields fun fs => fs.extract 0 3 ++ (nx.map fun (n : Nat) => rawInt n).toArray)).get? c = some (combO P 1 last nx) := by
        rw [Heap.get?_update_self _ hc' (by rw [set3]; rfl), set3]
      have k1 : ∀ b o, b ≠ c → hp.get? b = some o → (hp.update c (Obj.mapFields fun fs => fs.extract 0 3 ++ (nx.map fun (n : Nat) => rawInt n).toArray)).get? b = some o := fun b o hb e => (Heap.SameBut.update ..).extBut b o hb e
      have sz1 : (hp.update c (Obj.mapFields fun fs => fs.extract 0 3 ++ (nx.map fun (n : Nat) => rawInt n).toArray)).objs.size = hp.objs.size := (Heap.SameBut.update ..).1
      generalize hp.update c (Obj.mapFields fun fs => fs.extract 0 3 ++ (nx.map fun (n : Nat) => rawInt n).toArray) = h1 at hc1 k1 sz1 ⊢
      wp_walk
      refine wpAny_load (show Heap.get? (Shared.heap ⟨h1, g, d, tk, os⟩) P = some { cls := .type "tuple", data := .seq items } from k1 P _ nPc hP2) ?_
      refine wpAny_pure ?_
      refine wpAny_pure ?_
      refine wpAny_newTuple ?_ (by rw [List.length_map, sizeLine_eq]; omega)
      have hc2 : (h1.push { cls := .type "tuple", data := .seq (nx.map fun i => items.getD i .none).toArray }).get? c = some (combO P 1 last nx) := Heap.get?_push_of_some _ hc1
      refine wpAny_bind (wpAny_field (x := last) hc2 rfl rfl ?_)
      refine wpAny_bind (wpAny_setField hc2 rfl (by simp) ?_)
      refine wpAny_bind (wpAny_letGo (wpAny_pure ?_))
      have hTc : h1.objs.size ≠ c := Nat.ne_of_gt (Heap.lt_size hc1)
      refine h _ h1.objs.size (Nat.le_of_eq sz1.symm) ((Heap.SameBut.update ..).extBut _ _ hTc (Heap.get?_push_size _ rfl)) ?_ fun b o hb e => (Heap.SameBut.update ..).extBut b o hb (Heap.get?_push_of_some _ (k1 b o hb e))
      rw [Heap.get?_update_self _ hc2 (by rw [set2]; rfl), set2]
  · rename_i heq
    obtain ⟨l, hle, e⟩ : ∃ l, l = idx ∧ CBM.mform items.size l = none := ⟨_, nums (P := P) (st := 1) (last := last), heq⟩
    rw [hle] at e
    rw [CBM.nxt_form _ _ _ hR, hn] at e
    cases e
theorem next_end {c P : Addr} {last : Value} {idx : List Nat} {items : Array Value} {lo : Nat} {Q : Fin → Shared → Prop} (hh : A.handled = none) (hc : s.heap.get? c = some (combO P 1 last idx)) (hP : s.heap.get? P = some { cls := .type "tuple", data := .seq items })
    (hR : CBM.Rise items.size lo idx) (hn : CBM.nxt items.size idx = none)
    (h : ∀ h' e, (∃ o, h'.get? e = some o ∧ o.cls = .type "StopIteration") → (∀ b o, b ≠ c → s.heap.get? b = some o → h'.get? b = some o) → E (.ref e) { s with heap := h' }) :
    wpAny (model prog w) A (Builtin.«itertools.combinations.__next__» ⟨[.ref c], []⟩) Q E s := by
  obtain ⟨hp, g, d, tk, os⟩ := s
  have hc' : Heap.get? hp c = some (combO P 1 last idx) := hc
  have hP' : Heap.get? hp P = some { cls := .type "tuple", data := .seq items } := hP
  have nPc := P_ne hc' hP'
  wp_walk using wpAny_field hc' rfl rfl, wpAny_load hP'
  split
  · rename_i nx' heq
    obtain ⟨l, hle, e⟩ : ∃ l, l = idx ∧ CBM.mform items.size l = some nx' := ⟨_, nums (P := P) (st := 1) (last := last), heq⟩
    rw [hle] at e
    rw [CBM.nxt_form _ _ _ hR, hn] at e
    cases e
  · refine wpAny_bind (wpAny_setField hc' rfl (by simp) ?_)
    show wpAny _ _ (newExc (.type "StopIteration") [] >>= _) _ _ _
    refine wpAny_bind ?_
    simp only [newExc, newTuple]
    refine wpAny_bind (wpAny_newObj_type ?_ (by size_fits))
    refine wpAny_bind (m := firstArgMember _ _) (wpAny_of_eq (a := Value.none) (by first | rfl | (simp only [firstArgMember]; rfl)) ?_)
    refine wpAny_newObj_type ?_ (by size_fits)
    simp only [raiseNew]
    refine wpAny_bind (wpAny_handled ?_)
    first | rw [show A.in1.handled = none from hh] | rw [hh]
    refine wpAny_bind (wpAny_pure (wpAny_throw ?_))
    exact h _ _ ⟨_, Heap.get?_push_size _ rfl, rfl⟩ fun b o hb e => Heap.get?_push_of_some _ (Heap.get?_push_of_some _ ((Heap.SameBut.update ..).extBut b o hb e))
end
end CB
end PySem
namespace PySem
namespace CB
open PySem.Spec PyProof.Rows L2
/-- the lists that come, in turn -/
def sq (m r : Nat) : Nat → Option (List Nat)
  | 0 => some (List.range r)
  | i + 1 => (sq m r i).bind (CBM.nxt m)
theorem sq_rise {m r : Nat} (h : r ≤ m) : ∀ {i : Nat} {l : List Nat}, sq m r i = some l → CBM.Rise m 0 l ∧ l.length = r
  | 0, l, e => by
    cases e
    refine ⟨?_, List.length_range⟩
    have := CBM.rise_range (n := m) (k := r) (b := 0) (by omega)
    rwa [show (List.range r).map (0 + ·) = List.range r by simp] at this
  | i + 1, l, e => by
    obtain ⟨l0, e0, e1⟩ := Option.bind_eq_some_iff.mp e
    obtain ⟨a, b⟩ := sq_rise h e0
    obtain ⟨c, d, _⟩ := CBM.nxt_some e1 a
    exact ⟨c, d.trans b⟩
def natV (l : List Nat) : List V := l.map fun k => V.int (k : Nat)
/-- the lists of numbers, each a new tuple -/
def Itc (m r : Nat) : It := ⟨fun i _ => ∃ l, sq m r i = some l, fun i H v H' => ∃ T l, v = .ref T ∧ H T = none ∧ H' = upd H T (.tup (natV l)) ∧ sq m r i = some l, fun i _ => sq m r i = none⟩
section
variable {prog : Program} {w : World} {A : Around} {E : Value → Shared → Prop} {s : Shared}
theorem pyIter_comb {c P : Addr} {st : Int} {last : Value} {idx : List Nat} {Q : Value → Shared → Prop} (hc : s.heap.get? c = some (combO P st last idx)) (h : Q (.ref c) s) : wpAny (model prog w) A (pyIter (.ref c)) Q E s := by
  have hT : s.TypeIs (.ref c) "itertools.combinations" := ⟨_, hc, rfl⟩
  refine wpAny_pyIter_slot hT slot_iter (wpAny_call_entry slot_iter hT entry_iter ?_ (args_iter_1 _))
  show wpAny _ _ (ret (.ref c)) _ _ s
  exact wpAny_pure ⟨_, rfl, "itertools.combinations", _, hT, slot_next.lookup, h⟩
theorem pyNext_item {c P : Addr} {Q : Option Value → Shared → Prop} {o : Obj} (hT : s.TypeIs (.ref c) "itertools.combinations")
    (h : wpAny (model prog w) A.in1 (Builtin.«itertools.combinations.__next__» ⟨[.ref c], []⟩) (fun fin s' => ∃ v, fin = .done (.ret v) ∧ Q (some v) s') (fun _ _ => False) s) : wpAny (model prog w) A (pyNext (.ref c)) Q E s := by
  unfold pyNext
  refine wpAny_bind (wpAny_attempt (wpAny_callSpecial?_slot (name := Str.ofString "__next__") hT slot_next
    (wpAny_call_entry slot_next hT entry_next (wpAny_mono h (fun fin s' ⟨v, e, q⟩ => ⟨v, e, wpAny_pure q⟩) fun _ _ e => e.elim) (args_next_1 _))))
theorem pyNext_end {c P : Addr} {last : Value} {idx : List Nat} {items : Array Value} {lo : Nat} {Q : Option Value → Shared → Prop} (hh : A.handled = none) (hc : s.heap.get? c = some (combO P 1 last idx)) (hP : s.heap.get? P = some { cls := .type "tuple", data := .seq items })
    (hR : CBM.Rise items.size lo idx) (hn : CBM.nxt items.size idx = none) (hQ : ∀ h', (∀ b o, b ≠ c → s.heap.get? b = some o → h'.get? b = some o) → Q none { s with heap := h' }) : wpAny (model prog w) A (pyNext (.ref c)) Q E s := by
  have hT : s.TypeIs (.ref c) "itertools.combinations" := ⟨_, hc, rfl⟩
  unfold pyNext
  refine wpAny_bind (wpAny_attempt (wpAny_callSpecial?_slot (name := Str.ofString "__next__") hT slot_next
    (wpAny_call_entry slot_next hT entry_next (next_end (A := A.in1) hh hc hP hR hn fun h' e he hk => ?_) (args_next_1 _))))
  obtain ⟨o, ho, hco⟩ := he
  refine wpAny_bind (wpAny_isInstance (T := "StopIteration") (b := true) ⟨o, ho, hco⟩ isSubtype_stop ?_)
  exact wpAny_pure (hQ _ hk)
end
/-- the record at c as it stands when i lists have come -/
def CombAt (m r : Nat) (c P : Addr) (acc : Array Value) (i : Nat) (h : Heap) : Prop := h.get? P = some { cls := .type "tuple", data := .seq acc } ∧ ∃ st last idx, h.get? c = some (combO P st last idx) ∧ ((i = 0 ∧ st = 0 ∧ idx = List.range r) ∨ ∃ j, i = j + 1 ∧ st = 1 ∧ sq m r j = some idx)
theorem vals_idx {m : Nat} {acc : Array Value} (ha : acc.size = m) (hv : ∀ (i : Nat) (v : Value), acc[i]? = some v → ∃ t, v = Value.int ((i : Nat) : Int) t) : ∀ {l : List Nat} {lo : Nat}, CBM.Rise m lo l → Vals (natV l) (l.map fun i => acc.getD i .none)
  | [], _, _ => .nil
  | a :: t, lo, h => by
    refine .cons ?_ (vals_idx ha hv h.2.2)
    have hlt : a < acc.size := by rw [ha]; exact h.2.1
    have e : acc[a]? = some acc[a] := Array.getElem?_eq_getElem hlt
    obtain ⟨tk, et⟩ := hv a _ e
    refine ⟨tk, ?_⟩
    show acc.getD a .none = _
    rw [Array.getD_eq_getD_getElem?, e]
    exact et
theorem turn_comb {P : Program} {w : World} {K : PySem.W.Frag} {tg : Expr} {m r : Nat} {c Pl : Addr} {acc : Array Value} (hm : m ≤ 1000) (hrm : r ≤ m) (ha : acc.size = m) (hv : ∀ (i : Nat) (v : Value), acc[i]? = some v → ∃ t, v = Value.int ((i : Nat) : Int) t) :
    Turn P w K tg (Itc m r) [c, Pl] c (CombAt m r c Pl acc) where
  mem := by simp
  obj := fun i h st b hb => by
    obtain ⟨hP, s1, last, idx, hc, _⟩ := st
    have e' : b = c ∨ b = Pl := by simpa using hb
    rcases e' with q | q
    · rw [q]; exact ⟨_, hc, fun v z => nomatch z⟩
    · rw [q]; exact ⟨_, hP, fun v z => nomatch z⟩
  keep := fun i h h' st k => by
    obtain ⟨hP, s1, last, idx, hc, q⟩ := st
    exact ⟨k Pl (by simp) _ hP, s1, last, idx, k c (by simp) _ hc, q⟩
  item := by
    intro X hP hw hK hc i pins s σ H E I hf st hg
    subst hP hw hK
    obtain ⟨hPl, s1, last, idx, hcb, hst⟩ := st
    obtain ⟨l, hl⟩ := hg
    have nPc := P_ne hcb hPl
    have hlt : c < s.heap.objs.size := Heap.lt_size hcb
    have hT : s.TypeIs (.ref c) "itertools.combinations" := ⟨_, hcb, rfl⟩
    obtain ⟨hRl, hll⟩ := sq_rise hrm hl
    have fin : ∀ (h' : Heap) (T : Addr), s.heap.objs.size ≤ T → h'.get? T = some { cls := .type "tuple", data := .seq (l.map fun i => acc.getD i .none).toArray } → h'.get? c = some (combO Pl 1 (.ref T) l) → (∀ b o, b ≠ c → s.heap.get? b = some o → h'.get? b = some o) →
        ∃ u, some (Value.ref T) = some u ∧ wpAny (model X.prog X.w) X.A (letOwnedTupleGo tg (.ref c) u) (fun _ s2 => ∃ x H', Inv X pins σ H' s2 ∧ RelV x u ∧ (Itc m r).yld i H x H' ∧ CombAt m r c Pl acc (i + 1) s2.heap ∧ ∀ b ∈ [c, Pl], H' b = none) E { s with heap := h' } := by
      intro h' T hTs hTg hc' hk
      refine ⟨_, rfl, go_of (s := { s with heap := h' }) hc' rfl rfl (by decide) ?_⟩
      have lv := vals_idx ha hv hRl
      have new : ObjOk X.prog X.w (upd H T (.tup (natV l))) h' T (.tup (natV l)) := ⟨by unfold natV; rw [List.length_map, sizeLine_eq]; omega, _, lv, ⟨_, hTg, rfl, _, rfl⟩⟩
      have I1 : Inv X pins σ (upd H T (.tup (natV l))) { s with heap := h' } := I.turnedNew (t' := s.toks) (ch := [c, Pl]) (fun b o hb e => hk b o (fun z => hb (by simp [z])) e) hf hTs new
      refine ⟨.ref T, _, I1, rfl, ⟨T, l, rfl, I.hok.fresh hTs, rfl, hl⟩, ⟨hk Pl _ nPc hPl, 1, .ref T, l, hc', .inr ⟨i, rfl, rfl, hl⟩⟩, fun b hb => ?_⟩
      have hbl : b < s.heap.objs.size := by
        have e' : b = c ∨ b = Pl := by simpa using hb
        rcases e' with q | q
        · rw [q]; exact hlt
        · rw [q]; exact Heap.lt_size hPl
      rw [upd_ne (Nat.ne_of_lt (Nat.lt_of_lt_of_le hbl hTs))]
      exact (hf b hb).1
    rcases hst with ⟨rfl, rfl, rfl⟩ | ⟨j, rfl, rfl, hj⟩
    · cases hl
      exact pyNext_item (P := Pl) (o := combO Pl 0 last (List.range r)) hT (next_first hcb hPl (by rw [List.length_range]; omega) fun h' T h1 h2 h3 h4 => ⟨_, rfl, fin h' T h1 h2 h3 h4⟩)
    · have hn : CBM.nxt m idx = some l := by
        have := hl
        unfold sq at this
        rw [hj] at this
        exact this
      obtain ⟨hRi, hli⟩ := sq_rise hrm hj
      exact pyNext_item (P := Pl) (o := combO Pl 0 last (List.range r)) hT (next_more (lo := 0) hcb hPl (by omega) (by rw [ha]; exact hRi) (by rw [ha]; exact hn) fun h' T h1 h2 h3 h4 => ⟨_, rfl, fin h' T h1 h2 h3 h4⟩)
  done := by
    intro X hP hw hK hc i pins s σ H E I hf st hg
    subst hP hw hK
    obtain ⟨hPl, s1, last, idx, hcb, hst⟩ := st
    rcases hst with ⟨rfl, rfl, rfl⟩ | ⟨j, rfl, rfl, hj⟩
    · cases hg
    · have hn : CBM.nxt m idx = none := by
        have := hg
        show _ = none
        have h2 : sq m r (j + 1) = none := this
        unfold sq at h2
        rw [hj] at h2
        exact h2
      obtain ⟨hRi, hli⟩ := sq_rise hrm hj
      exact pyNext_end (I.ok.hd hc) hcb hPl (lo := 0) (by rw [ha]; exact hRi) (by rw [ha]; exact hn) fun h' hk => ⟨rfl, I.turnedL (t' := s.toks) (ch := [c, Pl]) (fun b o hb e => hk b o (fun z => hb (by simp [z])) e) hf⟩
  self := fun A i s Q E st h => by
    obtain ⟨hPl, s1, last, idx, hcb, _⟩ := st
    exact pyIter_comb hcb h
/-- combinations(range(a), b) -/
def iComb (ta : TA) (tr : TE) : TI := fun σ H R => ta σ H fun vs H1 => ∃ m : Nat, vs = [.int (m : Nat)] ∧ m ≤ 1000 ∧ tr σ H1 fun v H2 => ∃ r : Nat, v = .int (r : Nat) ∧ r ≤ m ∧ R (Itc m r) H2
theorem pi_comb {X : Cx} {tg a b : Expr} {ta : TA} {tr : TE} {p p2 pos pos2 : Pos} (hg : Gl X "combinations") (hm : X.mg "combinations" = some (.type "itertools.combinations")) (hgr : Gl X "range") (hmr : X.mg "range" = none) (ha : PA X [a] ta) (hb : PE X b tr) (hc : X.calm = true := by rfl)
    (hs : starEach [.Call (.Name "range" p2) [a] [] pos2, b] X.env = (false, eval (.Call (.Name "range" p2) [a] [] pos2) X.env) :: starEach [b] X.env := by rfl) (hpl : (backTo pos (starEach [b] X.env)).any (·.1) = false := by rfl)
    (hs2 : starEach [a] X.env = [(false, eval a X.env)] := by rfl) (hs3 : starEach [b] X.env = (false, eval b X.env) :: starEach [] X.env := by rfl) :
    PI X tg (.Call (.Name "combinations" p) [.Call (.Name "range" p2) [a] [] pos2, b] [] pos) (iComb ta tr) := by
  refine ⟨fun pins s σ H R I h => ?_⟩
  refine Call_ (ld_glob I hg hm (PyProof.Rows.callWith_type1 ?_ hs hpl))
  rw [hs]
  show wpAny _ _ (spliced ((false, eval (.Call (.Name "range" p2) [a] [] pos2) X.env) :: backTo pos (starEach [b] X.env))) _ _ s
  refine Calls.spliced_cons ?_
  refine Call_ (ld_blt I hgr hmr boot_range (PyProof.Rows.callWith_type1 (thn (ha.run pos2 pins s σ H _ I h) fun us s1 ⟨vs, H1, I1, r1, q1⟩ => ?_) hs2 rfl))
  obtain ⟨m, rfl, hm1, q1⟩ := q1
  cases r1 with
  | cons r0 rr =>
    cases rr
    obtain ⟨t, rfl⟩ := r0
    refine call_range_1 ?_
    have I2 : Inv X pins σ H1 { s1 with heap := s1.heap.push { cls := .type "range", data := .fields #[.int 0 s1.toks, .int (m : Nat) t, .int 1 (s1.toks + 1)] }, toks := s1.toks + 1 + 1 } := I1.kept (t' := s1.toks + 1 + 1) fun b o e => Heap.get?_push_of_some _ e
    have f2 : FpOk X pins H1 s1.heap.objs.size := I1.fpOk (Nat.le_refl _) (I1.hok.fresh (Nat.le_refl _))
    have I2p := I2.pinned (fp := [s1.heap.objs.size]) (fun b hb => by rw [List.mem_singleton.mp hb]; exact f2) (fun b hb => by rw [List.mem_singleton.mp hb]; exact ⟨_, Heap.get?_push_size _ rfl, fun v z => nomatch z⟩)
    rw [hs3]
    show wpAny _ _ (spliced ((false, eval b X.env) :: backTo pos (starEach [] X.env))) _ _ _
    refine Calls.spliced_cons (thn (hb.run _ _ σ H1 _ I2p q1) fun u s2 ⟨x, H2, I3, r2, q2⟩ => Calls.spliced_nil ?_)
    obtain ⟨r, rfl, hrm, q⟩ := q2
    obtain ⟨tr', rfl⟩ := r2
    have hrg := (I3.pin (s1.heap.objs.size, _) (List.mem_append_right _ (List.mem_append_right _ (mem_pinsAt (List.mem_singleton_self _) (Heap.get?_push_size _ rfl))))).1
    refine call_comb (I3.ok.hd hc) hrg hm1 hrm fun h0 h' tk acc k0 k1 hacc hT hcb => ?_
    refine pyIter_comb hcb ?_
    have I4 : Inv X pins σ H2 { s2 with heap := h0 } := I3.unpinned.kept (t' := s2.toks) k0
    have I5 : Inv X pins σ H2 { s2 with heap := h', toks := tk } := I4.kept (t' := tk) k1
    refine ⟨h0.objs.size + 1, [h0.objs.size + 1, h0.objs.size], _, _, H2, rfl, I5, turn_comb hm1 hrm hacc.1 (fun i v e => ?_), ⟨hT, 0, .none, _, hcb, .inl ⟨rfl, rfl, rfl⟩⟩, fun b hb => ?_, q⟩
    · obtain ⟨tt, et⟩ := hacc.2 i v e
      exact ⟨tt, by rw [et]; simp⟩
    · have e' : b = h0.objs.size + 1 ∨ b = h0.objs.size := by simpa using hb
      rcases e' with z | z
      · rw [z]; exact I4.fpOk (Nat.le_succ _) (I4.hok.fresh (Nat.le_succ _))
      · rw [z]; exact I4.fpOk (Nat.le_refl _) (I4.hok.fresh (Nat.le_refl _))
end CB
end PySem
namespace Say
open PySem PySem.Spec PyProof.Rows L2
/-- the rules of these numbers -/
def pickR (rs : List Rule) (l : List Nat) : List Rule := l.map (ruleAt rs)
/-- what least is to tell -/
def LeastV (rs : List Rule) (ss : List Exc) : Option (List Nat) → Prop
  | some l => CBM.Rise rs.length 0 l ∧ saysAll (pickR rs l) ss = true ∧ (∀ l', CBM.Rise rs.length 0 l' → l'.length < l.length → saysAll (pickR rs l') ss = false) ∧ ∀ l', CBM.Rise rs.length 0 l' → l'.length = l.length → CBM.lt l' l → saysAll (pickR rs l') ss = false
  | none => ∀ l', CBM.Rise rs.length 0 l' → saysAll (pickR rs l') ss = false
def LeastAt (H H' : Hp) (v : V) : Option (List Nat) → Prop
  | some l => ∃ D, v = .ref D ∧ (∀ o, H D = some o → ∃ ps, o = .tbl ps) ∧ H' D = some (.lst (natsV l))
  | none => v = .non
theorem rise_mem {n : Nat} : ∀ {l : List Nat} {lo : Nat}, CBM.Rise n lo l → ∀ k ∈ l, k < n
  | [], _, _, _, hk => by cases hk
  | a :: t, _, h, k, hk => by
    rcases List.mem_cons.mp hk with rfl | hk
    · exact h.2.1
    · exact rise_mem h.2.2 k hk
theorem rise_len {n : Nat} {l : List Nat} (h : CBM.Rise n 0 l) : l.length ≤ n := by
  cases l with
  | nil => exact Nat.zero_le _
  | cons a t => have := h.le (by simp); omega
theorem pick_ok {rs : List Rule} {l : List Nat} (h : ∀ k ∈ l, k < rs.length) {Pr : Rule → Prop} (hp : ∀ ρ ∈ rs, Pr ρ) : ∀ ρ ∈ pickR rs l, Pr ρ := fun ρ hρ => by
  obtain ⟨k, hk, rfl⟩ := List.mem_map.mp hρ
  have hl := h k hk
  rw [ruleAt_eq (List.getElem?_eq_getElem hl)]
  exact hp _ (List.getElem_mem hl)
theorem pick_paired {H : Hp} {ts : List Addr} {rs : List Rule} (hp : Paired (fun t ρ => H t = some (.tup (Rule.vs ρ))) ts rs) : ∀ {l : List Nat}, (∀ k ∈ l, k < rs.length) → Paired (fun t ρ => H t = some (.tup (Rule.vs ρ))) (l.map fun k => ts.getD k 0) (pickR rs l)
  | [], _ => .nil
  | k :: l, h => by
    have hl := h k List.mem_cons_self
    obtain ⟨a, ha, hat⟩ := paired_at' hp (List.getElem?_eq_getElem hl)
    refine .cons ?_ (pick_paired hp fun j hj => h j (List.mem_cons_of_mem _ hj))
    show H (ts.getD k 0) = _
    rw [ruleAt_eq (List.getElem?_eq_getElem hl), List.getD_eq_getElem?_getD, ha]
    exact hat
abbrev sLe : Stmt := topS 37
abbrev nLe : List Str := ["letters", "rules", "samples", "many", "numbers", "number"]
theorem scLe : FnScope nLe ["letters", "rules", "samples"] (defScope sLe) := ⟨rfl, rfl, rfl, by decide +kernel, rfl, by decide +kernel, by decide +kernel⟩
def spLe (Ts : List (Addr × Str)) : Sp := fun vs H Q _ => ∃ (L : List Nat) (R S : Addr) (rs : List Rule) (ss : List Exc), vs = [.str (T L), .ref R, .ref S] ∧ LetOk L ∧ RulesAt H R rs ∧ (∀ ρ ∈ rs, RuleOk L ρ) ∧ rs.length ≤ 12 ∧ SampsAt H S ss ∧ (∀ e ∈ ss, ExcOk L e) ∧ ss.length ≤ 12 ∧ LamX.Tabs Ts H ∧
  ∀ (o : Option (List Nat)) (v : V) (H' : Hp), LamX.ExtN H H' → LamX.Tabs Ts H' → LeastV rs ss o → LeastAt H H' v o → Q v H'
section
variable {P : Program} {w : World} {K : PySem.W.Frag} {mg : Str → Option Value} {base : Heap}
theorem ok_le {f : Addr} {fd : FuncData} {Ts : List (Addr × Str)} (F : Fun K "least" "least" sLe f fd) (B : Bn mg) (hC : mg "combinations" = some (.type "itertools.combinations")) (DC : Df P w K mg base "check_all" ["letters", "rules", "samples"] 5 spChA) (DA : Df P w K mg base "are_said" ["rules", "samples"] 9 (spAre Ts)) :
    FnOk P w K mg base CX0 10 f fd ["letters", "rules", "samples"] (spLe Ts) := by
  obtain ⟨fC, fdC, GC, kC, bC, mC⟩ := DC
  obtain ⟨fA, fdA, GA, kA, bA, mA⟩ := DA
  refine F.ok scLe (fun vs H Q E h => ?_) (fun cdv A outer s H vs Q E hr h => ?_)
  · obtain ⟨L, R, S, rs, ss, rfl, _⟩ := h
    rfl
  · obtain ⟨L, R, S, rs, ss, rfl, hL, hR, ho, h12, hS, hs, s12, hT, q⟩ := h
    refine ⟨_, pss_cons (ps_expr (pe_call GC (hr.mono (by decide)) (by rfl) mC kC bC .nil pass0 (pa_cons (pv 0) (pa_cons (pv 1) (pa_cons (pv 2) pa_nil)))))
      (pss_cons (ps_for PassesOwn.never rfl (pi_range1 (by rfl) B.rng (pa_cons (pe_op op_add (pe_callB call_len_seq (by rfl) B.len PySem.boot_len (pa_cons (pv 1) pa_nil)) pe_int) pa_nil)) (pg_name (i := 3) scLe.nd rfl (.inl rfl))
        (pss_one (ps_for PassesOwn.never rfl (CB.pi_comb (by rfl) hC (by rfl) B.rng (pa_cons (pe_callB call_len_seq (by rfl) B.len PySem.boot_len (pa_cons (pv 1) pa_nil)) pa_nil) (pv 3)) (pg_name (i := 4) scLe.nd rfl (.inl rfl))
          (pss_one (ps_if (pt_val (pe_call GA hr (by rfl) mA kA bA .nil pass0 (pa_cons (pe_lc (own := [("number", 5)]) (g := gName 5) (te := tOp (rIxT K) (tVar 1) (tVar 5)) rfl scLe.nd (pi_tup (pv 4))
              (blkOk_by (N := nLe) (sc := defScope sLe) (by decide +kernel)) (fun _ _ _ _ _ => pg_name (i := 5) scLe.nd rfl (.inl rfl)) (fun _ _ _ _ _ => pts_nil) (fun _ _ _ _ _ => pe_ix ix_tup (pv 1) (pv 5) (fun _ _ => rfl))) (pa_cons (pv 2) pa_nil))))
            (pss_one (ps_ret (pe_callTy call_list_of (by rfl) B.lst (by decide +kernel) (pa_cons (pv 4) pa_nil)))) pss_nil)))))
      (pss_one (ps_ret pe_non))), ?_⟩
    refine ⟨_, rfl, _, rfl, _, rfl, L, R, S, rs, ss, rfl, hL, hR, ho, h12, hS, hs, s12, fun H1 s1 => ?_⟩
    obtain ⟨ts, hRt, hRp⟩ := id hR
    have hrl : ∀ ρ ∈ rs, RlOk ρ := fun ρ hρ => (ho ρ hρ).rl hL
    have tl : (ts.map V.ref).length = rs.length := by rw [List.length_map, paired_len hRp]
    have e1 : LamX.ExtN H H1 := .of s1
    have keepR : ∀ {H2 : Hp}, LamX.ExtN H H2 → H2 R = some (.tup (ts.map V.ref)) := fun e => e _ _ hRt (by intro _ z; cases z)
    refine ⟨_, rfl, R, _, rfl, .inr (.inl (.inl (s1 _ _ hRt))), _, _, rfl, rfl, (rs.length : Int) + 1, by rw [tl], by omega, by omega, ?_⟩
    have en : ((rs.length : Int) + 1).toNat = rs.length + 1 := by omega
    rw [en]
    refine for_it (walk_range (lo := 0) (n := rs.length + 1)) (fun i σ H2 => (∃ v3 v4 v5, σ = [some (.str (T L)), some (.ref R), some (.ref S), v3, v4, v5]) ∧ LamX.ExtN H H2 ∧ LamX.Tabs Ts H2 ∧ ∀ l', CBM.Rise rs.length 0 l' → l'.length < i → saysAll (pickR rs l') ss = false)
      ⟨⟨_, _, _, rfl⟩, e1, hT.ext s1, fun l' _ h => absurd h (Nat.not_lt_zero _)⟩ (fun _ _ _ _ _ => trivial) ?_ ?_
    · rintro i x σ H2 H3 hi ⟨⟨v3, v4, v5, rfl⟩, e2, T2, hlow⟩ ⟨rfl, rfl⟩
      have hir : i ≤ rs.length := by omega
      refine ⟨_, rfl, R, _, rfl, .inr (.inl (.inl (keepR e2))), rs.length, by rw [tl], by omega, _, rfl, i, by simp, hir, ?_⟩
      refine ⟨fun j m σ H3 => (match CB.sq rs.length i j with | some l => m = rs.length ^ i - CBM.val rs.length l + 1 | none => m = 0) ∧ (∃ v4 v5, σ = [some (.str (T L)), some (.ref R), some (.ref S), some (.int (i : Nat)), v4, v5]) ∧ LamX.ExtN H H3 ∧ LamX.Tabs Ts H3 ∧
        ∀ l', CBM.Rise rs.length 0 l' → l'.length = i → (∀ l, CB.sq rs.length i j = some l → CBM.lt l' l → saysAll (pickR rs l') ss = false) ∧ (CB.sq rs.length i j = none → saysAll (pickR rs l') ss = false), ⟨_, rfl, ⟨v4, v5, by simp⟩, e2, T2, fun l' hl' el => ⟨fun l hl hlt => ?_, fun z => nomatch z⟩⟩, fun j m σ H3 hW => ?_⟩
      · cases hl
        have h0 := CBM.not_lt_range (k := i) (b := 0) hl' el
        rw [show (List.range i).map (0 + ·) = List.range i by simp] at h0
        exact absurd hlt h0
      · obtain ⟨hm, ⟨v4, v5, rfl⟩, e3, T3, hno⟩ := hW
        cases hj : CB.sq rs.length i j with
        | none =>
          refine .inl ⟨hj, ⟨⟨_, _, _, rfl⟩, e3, T3, fun l' hl' hlt => ?_⟩⟩
          rcases Nat.lt_or_ge l'.length i with c | c
          · exact hlow l' hl' c
          · exact (hno l' hl' (by omega)).2 hj
        | some l =>
          obtain ⟨hRl, hll⟩ := CB.sq_rise hir hj
          rw [hj] at hm
          have hm : m = rs.length ^ i - CBM.val rs.length l + 1 := hm
          refine .inr ⟨⟨l, hj⟩, fun σ H4 => (∃ v4 v5, σ = [some (.str (T L)), some (.ref R), some (.ref S), some (.int (i : Nat)), v4, v5]) ∧ LamX.ExtN H H4 ∧ LamX.Tabs Ts H4 ∧ saysAll (pickR rs l) ss = false, fun σ H4 ⟨hσ, e4, T4, hsay⟩ => ?_, fun x H4 hy => ?_⟩
          · cases hn : CB.sq rs.length i (j + 1) with
            | none =>
              refine ⟨0, by omega, ?_⟩
              show (match CB.sq rs.length i (j + 1) with | some l => _ | none => _) ∧ _
              rw [hn]
              refine ⟨rfl, hσ, e4, T4, fun l' hl' el => ⟨(fun l2 z => nomatch z), fun _ => ?_⟩⟩
              have hnx : CBM.nxt rs.length l = none := by
                unfold CB.sq at hn
                rw [hj] at hn
                exact hn
              rcases CBM.nxt_none hnx hRl hl' (by omega) with rfl | c
              · exact hsay
              · exact (hno l' hl' el).1 l hj c
            | some l2 =>
              have hnx : CBM.nxt rs.length l = some l2 := by
                unfold CB.sq at hn
                rw [hj] at hn
                exact hn
              obtain ⟨hR2, hl2, hlt2, hbt⟩ := CBM.nxt_some hnx hRl
              refine ⟨rs.length ^ i - CBM.val rs.length l2 + 1, ?_, ?_⟩
              · have v1 := CBM.lt_val hRl hR2 hl2.symm hlt2
                have v2 := CBM.val_lt hR2
                rw [hl2, hll] at v2
                omega
              · show (match CB.sq rs.length i (j + 1) with | some l => _ | none => _) ∧ _
                rw [hn]
                refine ⟨rfl, hσ, e4, T4, fun l' hl' el => ⟨fun l3 z hlt => ?_, fun z => nomatch z⟩⟩
                cases z
                rcases hbt l' hl' (by omega) hlt with rfl | c
                · exact hsay
                · exact (hno l' hl' el).1 l hj c
          · obtain ⟨Tn, l1, rfl, hTn, rfl, hl1⟩ := hy
            rw [hj] at hl1
            cases hl1
            have smT := same_new hTn (.tup (CB.natV l))
            have e4 := e3.trans (LamX.ExtN.of smT)
            have hkl : ∀ k ∈ l, k < rs.length := rise_mem hRl
            refine ⟨_, rfl, Tn, rfl, ⟨_, .inl (.inl upd_same)⟩, fun D hD => ?_⟩
            have nTD : Tn ≠ D := fun z => by rw [← z, upd_same] at hD; cases hD
            refine lc_it (walk_tup (xs := CB.natV l)) (fun t H5 => H5 D = some (.lst (((l.take t).map fun k => ts.getD k 0).map V.ref)) ∧ Same (upd H3 Tn (.tup (CB.natV l))) H5) ?_ (fun t H5 _ h => .inl (.inl (h.2 _ _ upd_same))) ?_ ?_
            · exact ⟨upd_same, same_new hD _⟩
            · rintro t x H5 H6 ht ⟨d1, d2⟩ ⟨rfl, hx⟩
              have hx : (l.map fun k => V.int (k : Nat))[t]? = some x := hx
              rw [List.getElem?_map] at hx
              obtain ⟨k, hk, rfl⟩ := Option.map_eq_some_iff.mp hx
              have hkl2 := hkl k (List.mem_of_getElem? hk)
              have htl : t < l.length := (List.getElem?_eq_some_iff.mp hk).1
              obtain ⟨a, ha, hat⟩ := paired_at' hRp (List.getElem?_eq_getElem hkl2)
              refine ⟨rfl, ?_⟩
              refine ⟨_, rfl, _, rfl, R, _, (k : Int), .ref a, rfl, rfl, .inl (.inl (d2 _ _ (keepR e4))), atI_nat (by rw [List.getElem?_map, ha]; rfl), _, d1, ?_, ?_, ?_⟩
              · rw [List.length_map, List.length_map, List.length_take]
                have := rise_len hRl
                exact small1000 (by omega)
              · rw [upd_same, List.take_add_one, hk]
                simp only [Option.toList_some, List.map_append, List.map_cons, List.map_nil, List.getD_eq_getElem?_getD, ha, Option.getD_some]
              · exact fun b u qb => by
                  rw [upd_ne (ne_of_none qb hD)]
                  exact d2 b u qb
            · rintro H5 ⟨d1, d2⟩
              have nl : (CB.natV l).length = l.length := by unfold CB.natV; rw [List.length_map]
              rw [nl, List.take_length] at d1
              have e5 := e4.trans (LamX.ExtN.of d2)
              refine ⟨_, rfl, D, S, pickR rs l, ss, rfl, ⟨_, d1, paired_mono (fun t ρ h => e5 _ _ h (by intro _ z; cases z)) (pick_paired hRp hkl)⟩, pick_ok hkl hrl, hS.extN e5, fun e he => by have := (hs e he).w8; omega, (T3.ext smT).ext d2, fun H6 e6 T6 => ?_⟩
              refine ⟨_, rfl, ite2 (fun c => ?_) (fun c => ?_)⟩
              · refine ⟨_, rfl, Tn, _, rfl, .inr (.inl (.inl (e6 _ _ (d2 _ _ upd_same) (by intro _ z; cases z)))), fun D2 hD2 => ?_⟩
                have sD2 := same_new hD2 (.lst (CB.natV l))
                have hH : LamX.ExtN H H6 := e5.trans e6
                refine q (some l) _ _ (hH.trans (LamX.ExtN.of sD2)) (T6.ext sD2) ⟨hRl, c, fun l' hl' hlt => hlow l' hl' (by omega), fun l' hl' el hlt => (hno l' hl' (by omega)).1 l hj hlt⟩ ⟨D2, rfl, ?_, upd_same⟩
                intro o hz
                by_cases ht : ∃ ps, o = .tbl ps
                · exact ht
                · exact absurd ((hH _ _ hz (fun ps z => ht ⟨ps, z⟩)).symm.trans hD2) (fun z => nomatch z)
              · exact ⟨⟨_, _, rfl⟩, e5.trans e6, T6, Bool.eq_false_iff.mpr c⟩
    · rintro σ H2 ⟨⟨v3, v4, v5, rfl⟩, e2, T2, hall⟩
      exact q none _ H2 e2 T2 (fun l' hl' => hall l' hl' (by have := rise_len hl'; omega)) rfl
end
end Say
namespace Say
open PySem PySem.Spec PyProof.Rows L2
theorem rise_iff {n : Nat} : ∀ {l : List Nat} {lo : Nat}, CBM.Rise n lo l ↔ l.Pairwise (· < ·) ∧ ∀ k ∈ l, lo ≤ k ∧ k < n
  | [], lo => ⟨fun _ => ⟨.nil, fun k hk => by cases hk⟩, fun _ => trivial⟩
  | a :: t, lo => by
    constructor
    · rintro ⟨h1, h2, h3⟩
      obtain ⟨p1, p2⟩ := rise_iff.mp h3
      refine ⟨.cons (fun k hk => (p2 k hk).1) p1, fun k hk => ?_⟩
      rcases List.mem_cons.mp hk with rfl | hk
      · exact ⟨h1, h2⟩
      · have := p2 k hk
        omega
    · rintro ⟨p1, p2⟩
      cases p1 with
      | cons q1 q2 =>
        have h := p2 a List.mem_cons_self
        exact ⟨h.1, h.2, rise_iff.mpr ⟨q2, fun k hk => ⟨q1 k hk, (p2 k (List.mem_cons_of_mem _ hk)).2⟩⟩⟩
theorem rise_full {n : Nat} : ∀ {l : List Nat} {lo : Nat}, CBM.Rise n lo l → lo + l.length = n → l = (List.range l.length).map (lo + ·)
  | [], lo, _, _ => rfl
  | a :: t, lo, h, e => by
    have h1 : a + (a :: t).length ≤ n := CBM.Rise.le (lo := a) (l := a :: t) ⟨Nat.le_refl _, h.2.1, h.2.2⟩ (by simp)
    have h0 := h.1
    have ea : a = lo := by omega
    subst ea
    rw [List.length_cons, CBM.range_map, ← rise_full h.2.2 (by rw [List.length_cons] at e; omega)]
theorem rise_range0 (n : Nat) : CBM.Rise n 0 (List.range n) := by
  have := CBM.rise_range (n := n) (k := n) (b := 0) (by omega)
  rwa [show (List.range n).map (0 + ·) = List.range n by simp] at this
theorem pick_all (rs : List Rule) : pickR rs (List.range rs.length) = rs := by
  unfold pickR
  apply List.ext_getElem
  · simp
  · intro i h1 h2
    rw [List.getElem_map, List.getElem_range]
    exact ruleAt_eq (List.getElem?_eq_getElem h2)
/-- picking among what was picked -/
theorem pick_pick {rs : List Rule} {l l2 : List Nat} (h : ∀ k ∈ l2, k < l.length) : pickR (pickR rs l) l2 = pickR rs (l2.map fun k => l.getD k 0) := by
  unfold pickR
  rw [List.map_map]
  apply List.map_congr_left
  intro k hk
  have hl := h k hk
  refine ruleAt_eq ?_
  rw [List.getElem?_map, List.getElem?_eq_getElem hl]
  simp [List.getD_eq_getElem?_getD, List.getElem?_eq_getElem hl]
theorem rise_comp {n : Nat} {l l2 : List Nat} (h : CBM.Rise n 0 l) (h2 : CBM.Rise l.length 0 l2) : CBM.Rise n 0 (l2.map fun k => l.getD k 0) := by
  obtain ⟨p1, p2⟩ := rise_iff.mp h
  obtain ⟨q1, q2⟩ := rise_iff.mp h2
  refine rise_iff.mpr ⟨List.pairwise_map.mpr (q1.imp_of_mem fun {i j} hi hj hij => ?_), fun k hk => ?_⟩
  · have hi' := (q2 i hi).2
    have hj' := (q2 j hj).2
    rw [List.getD_eq_getElem?_getD, List.getD_eq_getElem?_getD, List.getElem?_eq_getElem hi', List.getElem?_eq_getElem hj']
    exact List.pairwise_iff_getElem.mp p1 i j hi' hj' hij
  · obtain ⟨i, hi, rfl⟩ := List.mem_map.mp hk
    have hi' := (q2 i hi).2
    rw [List.getD_eq_getElem?_getD, List.getElem?_eq_getElem hi']
    exact p2 _ (List.getElem_mem hi')
/-- rules that say all: least tells some -/
theorem least_some {rs : List Rule} {ss : List Exc} {o : Option (List Nat)} (h : saysAll rs ss = true) (ho : LeastV rs ss o) : ∃ l, o = some l := by
  cases o with
  | some l => exact ⟨l, rfl⟩
  | none =>
    have := ho _ (rise_range0 rs.length)
    rw [pick_all, h] at this
    cases this
/-- of the fewest all are wanted -/
theorem least_again {rs : List Rule} {ss : List Exc} {l : List Nat} {o : Option (List Nat)} (hl : LeastV rs ss (some l)) (ho : LeastV (pickR rs l) ss o) : o = some (List.range l.length) := by
  obtain ⟨h1, h2, h3, _⟩ := hl
  obtain ⟨l2, rfl⟩ := least_some h2 ho
  obtain ⟨g1, g2, _, _⟩ := ho
  have ln : (pickR rs l).length = l.length := by unfold pickR; rw [List.length_map]
  rw [ln] at g1
  have gm := fun k hk => (rise_iff.mp g1).2 k hk
  rw [pick_pick fun k hk => (gm k hk).2] at g2
  have le := rise_len g1
  rcases Nat.lt_or_ge l2.length l.length with c | c
  · have := h3 _ (rise_comp h1 g1) (by rw [List.length_map]; exact c)
    rw [this] at g2
    cases g2
  · have e : l2.length = l.length := by omega
    have := rise_full g1 (by omega)
    rw [show (List.range l2.length).map (0 + ·) = List.range l2.length by simp, e] at this
    rw [this]
theorem rise_sub {n : Nat} {l l2 : List Nat} (h : CBM.Rise n 0 l) (s : l2.Sublist l) : CBM.Rise n 0 l2 := by
  obtain ⟨p1, p2⟩ := rise_iff.mp h
  exact rise_iff.mpr ⟨p1.sublist s, fun k hk => p2 k (s.subset hk)⟩
/-- none of the fewest can be left out -/
theorem least_out {rs : List Rule} {ss : List Exc} {l : List Nat} {k : Nat} (hl : LeastV rs ss (some l)) (hk : k < l.length) : saysAll ((pickR rs l).take k ++ (pickR rs l).drop (k + 1)) ss = false := by
  obtain ⟨h1, _, h3, _⟩ := hl
  have e : (pickR rs l).take k ++ (pickR rs l).drop (k + 1) = pickR rs (l.eraseIdx k) := by
    unfold pickR
    rw [List.eraseIdx_eq_take_drop_succ, List.map_append, List.map_take, List.map_drop]
  rw [e]
  exact h3 _ (rise_sub h1 (List.eraseIdx_sublist ..)) (by rw [List.length_eraseIdx]; split <;> omega)
/-- a word said two ways has none -/
theorem least_two {rs : List Rule} {ss : List Exc} {e1 e2 : Exc} {o : Option (List Nat)} (h1 : e1 ∈ ss) (h2 : e2 ∈ ss) (hw : e1.1 = e2.1) (hn : e1.2 ≠ e2.2) (ho : LeastV rs ss o) : o = none := by
  cases o with
  | none => rfl
  | some l =>
    obtain ⟨_, g, _⟩ := ho
    have a1 := of_decide_eq_true (List.all_eq_true.mp g e1 h1)
    have a2 := of_decide_eq_true (List.all_eq_true.mp g e2 h2)
    rw [hw, a2] at a1
    exact absurd (Option.some.inj a1).symm hn
end Say
namespace Say
open PySem PySem.Spec PyProof.Rows L2
section
variable {P : Program} {w : World} {K : PySem.W.Frag} {mg : Str → Option Value} {base : Heap}
abbrev sRow : Stmt := topS 43
theorem scRow : FnScope ["_law_script", "_law_mixed", "_law_cell"] ["_law_script"] (defScope sRow) := ⟨rfl, rfl, rfl, by decide +kernel, rfl, by decide +kernel, by decide +kernel⟩
def spRow (K : PySem.W.Frag) : Sp := fun vs H Q _ => ∃ (a : Addr) (ns : List Int), vs = [.ref a] ∧ SqL K H a (ns.map V.int) ∧ ns.length ≤ 63 ∧
  ∀ (r : Addr) (H' : Hp), H r = none → Same H H' → RowAt K H' r a ns → Q (.ref r) H'
theorem map_int_get {ns : List Int} {i : Nat} {x : V} (h : (ns.map V.int)[i]? = some x) : ∃ z, x = V.int z := by
  rw [List.getElem?_map] at h
  cases e : ns[i]? with
  | none => rw [e] at h; cases h
  | some z => rw [e] at h; exact ⟨z, (Option.some.inj h).symm⟩
theorem ok_row {f : Addr} {fd : FuncData} {k : Nat} (F : Fun K "_law_row" "_law_row" sRow f fd) : FnOk P w K mg base CX0 (k + 1) f fd ["_law_script"] (spRow K) := by
  refine F.ok scRow (fun vs H Q E h => ?_) (fun cdv A outer s H vs Q E hr h => ?_)
  · obtain ⟨a, ns, rfl, _⟩ := h
    rfl
  · obtain ⟨a, ns, rfl, hS, hle, q⟩ := h
    refine ⟨_, pss_cons (ps_set (i := 1) scRow.nd rfl (.inl rfl) pe_int)
      (pss_cons (ps_for PassesOwn.never rfl (pi_list (pv 0)) (pg_name (i := 2) scRow.nd rfl (.inl rfl))
        (pss_one (ps_set (i := 1) scRow.nd rfl (.inl rfl) (pe_op op_modN (pe_op op_add (pe_op op_add (pe_op op_mul (pv 1) pe_int) (pv 2)) pe_int) pe_int))))
      (pss_one (ps_ret (pe_lst (pa_cons (pv 0) (pa_cons pe_int (pa_cons pe_int (pa_cons (pv 1) pa_nil)))))))), ?_⟩
    refine ⟨_, rfl, a, rfl, ⟨_, hS⟩, for_list (K := K) (a := a) (xs := ns.map V.int) (fun i σ H2 => H2 = H ∧ ∃ (m : Int) (v : Option V), σ = [some (.ref a), some (.int m), v] ∧ 0 ≤ m ∧ m < 2147483647)
      ⟨rfl, 7, none, rfl, by decide, by decide⟩ (fun i σ H2 _ h => by obtain ⟨rfl, _⟩ := h; exact hS) ?_ ?_⟩
    · rintro i x σ H2 hx ⟨rfl, m, v, rfl, h0, h1⟩
      obtain ⟨z, rfl⟩ := map_int_get hx
      refine ⟨_, rfl, _, _, rfl, rfl, .inl ⟨by omega, by omega⟩, _, rfl, _, _, rfl, rfl, _, _, rfl, rfl, _, _, rfl, rfl, (by show (2147483647 : Int) ≠ 0; decide), ?_⟩
      exact ⟨rfl, _, _, rfl, Int.fmod_nonneg_of_pos _ (by decide), Int.fmod_lt_of_pos _ (by decide)⟩
    · rintro σ H2 ⟨rfl, m, v, rfl, h0, h1⟩
      refine ⟨_, rfl, _, rfl, (by show 4 ≤ sizeLine; decide), fun p hp => ?_⟩
      have sm := same_new hp (.lst [.ref a, .int 0, .int 0, .int m])
      exact q p _ hp sm ⟨⟨0, 0, m, upd_same, by decide, h0, h1⟩, sm.seq hS, hle⟩
end
end Say
/-! k16's own law_sets -/
namespace Say
open PySem PySem.Spec PyProof.Rows L2
/-- all rising lists of numbers below n, in the law's turn -/
def setsM : Nat → List (List Nat)
  | 0 => [[]]
  | n + 1 => setsM n ++ (setsM n).map (· ++ [n])
theorem sets_len : ∀ n : Nat, (setsM n).length = 2 ^ n
  | 0 => rfl
  | n + 1 => by
    show (setsM n ++ (setsM n).map (· ++ [n])).length = _
    rw [List.length_append, List.length_map, sets_len n, Nat.pow_succ]
    omega
theorem sets_short : ∀ {n : Nat} {l : List Nat}, l ∈ setsM n → l.length ≤ n
  | 0, l, h => by
    rw [List.mem_singleton.mp h]
    exact Nat.le_refl _
  | n + 1, l, h => by
    rcases List.mem_append.mp h with h | h
    · have := sets_short h
      omega
    · obtain ⟨k, hk, rfl⟩ := List.mem_map.mp h
      have := sets_short hk
      rw [List.length_append]
      simp
      omega
def SetsAt (H : Hp) (D : Addr) (ls : List (List Nat)) : Prop := ∃ ts : List Addr, H D = some (.lst (ts.map V.ref)) ∧ Paired (fun t (l : List Nat) => H t = some (.lst (natsV l))) ts ls
theorem SetsAt.same {H H' : Hp} {D : Addr} {ls : List (List Nat)} (h : SetsAt H D ls) (e : Same H H') : SetsAt H' D ls := by
  obtain ⟨ts, h1, h2⟩ := h
  exact ⟨ts, e _ _ h1, paired_mono (fun t l q => e _ _ q) h2⟩
section
variable {P : Program} {w : World} {K : PySem.W.Frag} {mg : Str → Option Value} {base : Heap}
abbrev sSets : Stmt := topS 53
abbrev nSets : List Str := ["_law_many", "_law_found", "_law_number", "_law_some"]
theorem scSets : FnScope nSets ["_law_many"] (defScope sSets) := ⟨rfl, rfl, rfl, by decide +kernel, rfl, by decide +kernel, by decide +kernel⟩
def spSets : Sp := fun vs H Q _ => ∃ n : Nat, vs = [.int n] ∧ n ≤ 8 ∧ ∀ (D : Addr) (H' : Hp), Same H H' → H D = none → SetsAt H' D (setsM n) → Q (.ref D) H'
theorem ok_sets {f : Addr} {fd : FuncData} {k : Nat} (F : Fun K "_law_sets" "_law_sets" sSets f fd) (B : Bn mg) : FnOk P w K mg base CX0 (k + 1) f fd ["_law_many"] spSets := by
  refine F.ok scSets (fun vs H Q E h => ?_) (fun cdv A outer s H vs Q E hr h => ?_)
  · obtain ⟨n, rfl, _⟩ := h
    rfl
  · obtain ⟨n, rfl, h8, q⟩ := h
    refine ⟨_, pss_cons (ps_set (i := 1) scSets.nd rfl (.inl rfl) (pe_lst (pa_cons (pe_lst pa_nil) pa_nil)))
      (pss_cons (ps_for PassesOwn.never rfl (pi_range1 (by rfl) B.rng (pa_cons (pv 0) pa_nil)) (pg_name (i := 2) scSets.nd rfl (.inr rfl)) (pss_one (ps_set (i := 1) scSets.nd rfl (.inl rfl) (pe_op op_cat (pv 1) (pe_lc (own := [("_law_some", 3)]) (g := gName 3) (te := tOp rCat (tVar 3) (tLst (tCons (tVar 2) tNil))) rfl scSets.nd (pi_list (pv 1))
        (blkOk_by (N := nSets) (sc := defScope sSets) (by decide +kernel)) (fun _ _ _ _ _ => pg_name (i := 3) scSets.nd rfl (.inl rfl)) (fun _ _ _ _ _ => pts_nil) (fun _ _ _ _ _ => pe_op op_cat (pv 3) (pe_lst (pa_cons (pv 2) pa_nil))))))))
      (pss_one (ps_ret (pv 1)))), ?_⟩
    refine ⟨(by show 0 ≤ sizeLine; decide), fun E0 hE0 => ⟨(by show 1 ≤ sizeLine; decide), fun D0 hD0 => ?_⟩⟩
    have s0 := same_new hE0 (.lst [])
    have s1 := same_new hD0 (.lst [.ref E0])
    have hnD : H D0 = none := s0.free hD0
    refine ⟨_, rfl, (n : Int), rfl, by omega, by omega, ?_⟩
    rw [show ((n : Nat) : Int).toNat = n by omega]
    refine for_it (walk_range (lo := 0) (n := n)) (fun i σ H2 => ∃ (D : Addr) (v2 v3 : Option V), σ = [some (.int (n : Nat)), some (.ref D), v2, v3] ∧ Same H H2 ∧ H D = none ∧ SetsAt H2 D (setsM i)) ⟨D0, _, _, rfl, s0.trans s1, hnD, ⟨[E0], upd_same, .cons (s1 _ _ upd_same) .nil⟩⟩ (fun _ _ _ _ _ => trivial) ?_ ?_
    · rintro i x σ H2 H2' hi ⟨D, v2, v3, rfl, s2, hD, ts, hD2, hp2⟩ ⟨rfl, rfl⟩
      have lts : ts.length = 2 ^ i := by rw [paired_len hp2, sets_len]
      have l256 : 2 ^ i ≤ 128 := Nat.pow_le_pow_right (n := 2) (by decide) (show i ≤ 7 by omega)
      simp only [Int.zero_add, List.set_cons_succ, List.set_cons_zero]
      refine ⟨_, rfl, _, rfl, D, rfl, ⟨_, .inl (.inl hD2)⟩, fun C hC => ?_⟩
      refine lc_it (walk_list (xs := ts.map V.ref)) (fun j H3 => ∃ us : List Addr, H3 C = some (.lst (us.map V.ref)) ∧ us.length ≤ j ∧ Same H2' H3 ∧ Paired (fun t (l : List Nat) => t ≠ C ∧ H3 t = some (.lst (natsV l))) us (((setsM i).take j).map (· ++ [i]))) ?_ (fun j H3 _ ⟨us, _, _, s3, _⟩ => .inl (.inl (s3 _ _ hD2))) ?_ ?_
      · exact ⟨[], upd_same, Nat.le_refl _, same_new hC _, .nil⟩
      · rintro j x H3 H3' hj ⟨us, u1, u2, s3, u3⟩ ⟨rfl, hx⟩
        have hx : (ts.map V.ref)[j]? = some x := hx
        rw [List.getElem?_map] at hx
        obtain ⟨t, ht, rfl⟩ := Option.map_eq_some_iff.mp hx
        obtain ⟨l, hl, hat⟩ := paired_at hp2 ht
        have hjl : j < ts.length := (List.getElem?_eq_some_iff.mp ht).1
        have hll := sets_short (List.mem_of_getElem? hl)
        refine ⟨rfl, ?_⟩
        refine ⟨_, rfl, _, rfl, (by show 1 ≤ sizeLine; decide), fun p hp => ?_⟩
        have s4 := same_new hp (.lst [V.int (i : Nat)])
        refine ⟨t, p, natsV l, _, rfl, rfl, s4 _ _ (s3 _ _ hat), upd_same, (by unfold natsV; rw [List.length_map]; exact Nat.le_of_lt (small1000 (by simp; omega))), fun u hu => ?_⟩
        have s5 := same_new hu (.lst (natsV l ++ [V.int (i : Nat)]))
        have s35 := s4.trans s5
        have uC : u ≠ C := fun z => by
          rw [z, s4 _ _ u1] at hu
          cases hu
        refine ⟨_, s35 _ _ u1, by rw [List.length_map]; exact small1000 (by omega), us ++ [u], by rw [upd_same, List.map_append]; rfl, by rw [List.length_append]; exact Nat.succ_le_succ u2, fun b o hb => by rw [upd_ne (ne_of_none hb hC)]; exact s35 _ _ (s3 _ _ hb), ?_⟩
        rw [List.take_add_one, hl, List.map_append]
        refine paired_app (paired_mono (fun t' l' q => ⟨q.1, by rw [upd_ne q.1]; exact s35 _ _ q.2⟩) u3) (.cons ⟨uC, ?_⟩ .nil)
        rw [upd_ne uC, upd_same]
        unfold natsV
        rw [List.map_append]
        rfl
      · rintro H3 ⟨us, u1, u2, s3, u3⟩
        rw [List.length_map, lts, ← sets_len i, List.take_length] at u3
        have lus : us.length = 2 ^ i := by rw [paired_len u3, List.length_map, sets_len]
        refine ⟨D, C, ts.map V.ref, us.map V.ref, rfl, rfl, s3 _ _ hD2, u1, by rw [List.length_map, List.length_map]; exact Nat.le_of_lt (small1000 (by omega)), fun p hp => ?_⟩
        have s4 := same_new hp (.lst (ts.map V.ref ++ us.map V.ref))
        have s24 := s3.trans s4
        have hpH : H p = none := (s2.trans s3).free hp
        exact ⟨p, _, _, rfl, s2.trans s24, hpH, ts ++ us, by rw [upd_same, List.map_append], paired_app (paired_mono (fun t l q => s24 _ _ q) hp2) (paired_mono (fun t l q => s4 _ _ q.2) u3)⟩
    · rintro σ H2 ⟨D, v2, v3, rfl, s2, hD, hs⟩
      exact ⟨_, rfl, q D H2 s2 hD hs⟩
end
end Say
namespace Say
open PySem PySem.Spec PyProof.Rows L2
theorem mem_sets : ∀ {n : Nat} {l : List Nat}, l ∈ setsM n ↔ CBM.Rise n 0 l
  | 0, l => by
    constructor
    · intro h
      rw [List.mem_singleton.mp h]
      trivial
    · intro h
      cases l with
      | nil => exact List.mem_singleton_self _
      | cons a t => exact absurd h.2.1 (Nat.not_lt_zero a)
  | n + 1, l => by
    rw [rise_iff]
    constructor
    · intro h
      rcases List.mem_append.mp h with h | h
      · obtain ⟨p1, p2⟩ := rise_iff.mp (mem_sets.mp h)
        exact ⟨p1, fun k hk => ⟨Nat.zero_le _, by have := (p2 k hk).2; omega⟩⟩
      · obtain ⟨k, hk, rfl⟩ := List.mem_map.mp h
        obtain ⟨p1, p2⟩ := rise_iff.mp (mem_sets.mp hk)
        refine ⟨List.pairwise_append.mpr ⟨p1, List.pairwise_singleton _ _, fun x hx y hy => by rw [List.mem_singleton.mp hy]; exact (p2 x hx).2⟩, fun x hx => ⟨Nat.zero_le _, ?_⟩⟩
        rcases List.mem_append.mp hx with hx | hx
        · have := (p2 x hx).2
          omega
        · rw [List.mem_singleton.mp hx]
          omega
    · rintro ⟨p1, p2⟩
      rcases List.eq_nil_or_concat l with rfl | ⟨k, x, rfl⟩
      · exact List.mem_append_left _ (mem_sets.mpr trivial)
      · rw [List.concat_eq_append] at p1 p2 ⊢
        obtain ⟨q1, _, q3⟩ := List.pairwise_append.mp p1
        have hx := (p2 x (by simp)).2
        by_cases e : x = n
        · subst e
          exact List.mem_append_right _ (List.mem_map.mpr ⟨k, mem_sets.mpr (rise_iff.mpr ⟨q1, fun y hy => ⟨Nat.zero_le _, q3 y hy x (by simp)⟩⟩), rfl⟩)
        · refine List.mem_append_left _ (mem_sets.mpr (rise_iff.mpr ⟨p1, fun y hy => ⟨Nat.zero_le _, ?_⟩⟩))
          rcases List.mem_append.mp hy with hy | hy
          · have := q3 y hy x (by simp)
            omega
          · rw [List.mem_singleton.mp hy]
            omega
/-- as Python compares lists -/
def ltB : List Nat → List Nat → Bool
  | [], [] => false
  | [], _ :: _ => true
  | _ :: _, [] => false
  | x :: xs, y :: ys => if x = y then ltB xs ys else decide (x < y)
theorem listLt_B : ∀ l k : List Nat, PySem.W.listLt (l.map fun (x : Nat) => (x : Int)) (k.map fun (x : Nat) => (x : Int)) = ltB l k
  | [], [] => rfl
  | [], _ :: _ => rfl
  | _ :: _, [] => rfl
  | x :: xs, y :: ys => by
    rw [List.map_cons, List.map_cons, PySem.W.listLt, ltB, listLt_B xs ys]
    by_cases h : x = y
    · rw [if_pos h, if_pos (by omega)]
    · rw [if_neg h, if_neg (by omega)]
      show decide ((x : Int) < (y : Int)) = decide (x < y)
      exact decide_eq_decide.mpr ⟨fun z => by omega, fun z => by omega⟩
theorem ltB_self : ∀ l : List Nat, ltB l l = false
  | [] => rfl
  | x :: xs => by rw [ltB, if_pos rfl, ltB_self xs]
theorem ltB_trans : ∀ {a b c : List Nat}, ltB a b = true → ltB b c = true → ltB a c = true
  | [], [], _, h, _ => by cases h
  | [], _ :: _, [], _, h => by cases h
  | [], _ :: _, _ :: _, _, _ => rfl
  | _ :: _, [], _, h, _ => by cases h
  | _ :: _, _ :: _, [], _, h => by cases h
  | x :: xs, y :: ys, z :: zs, h, g => by
    rw [ltB] at h g ⊢
    by_cases e1 : x = y
    · subst e1
      rw [if_pos rfl] at h
      by_cases e2 : x = z
      · subst e2
        rw [if_pos rfl] at g ⊢
        exact ltB_trans h g
      · rw [if_neg e2] at g ⊢
        exact g
    · rw [if_neg e1] at h
      have h := of_decide_eq_true h
      by_cases e2 : y = z
      · subst e2
        rw [if_neg e1]
        exact decide_eq_true h
      · rw [if_neg e2] at g
        have g := of_decide_eq_true g
        rw [if_neg (by omega)]
        exact decide_eq_true (by omega)
theorem ltB_of : ∀ {a b : List Nat}, CBM.lt a b → ltB a b = true
  | [], _, h => h.elim
  | _ :: _, [], h => h.elim
  | x :: xs, y :: ys, h => by
    rw [ltB]
    rcases h with h | ⟨rfl, h⟩
    · rw [if_neg (by omega)]
      exact decide_eq_true h
    · rw [if_pos rfl]
      exact ltB_of h
theorem lt_total : ∀ {a b : List Nat}, a.length = b.length → a = b ∨ CBM.lt a b ∨ CBM.lt b a
  | [], [], _ => .inl rfl
  | [], _ :: _, h => by cases h
  | _ :: _, [], h => by cases h
  | x :: xs, y :: ys, h => by
    rcases Nat.lt_trichotomy x y with c | rfl | c
    · exact .inr (.inl (.inl c))
    · rcases lt_total (Nat.succ.inj h) with rfl | c | c
      · exact .inl rfl
      · exact .inr (.inl (.inr ⟨rfl, c⟩))
      · exact .inr (.inr (.inr ⟨rfl, c⟩))
    · exact .inr (.inr (.inl c))
/-- the fewer, then as lists ascend -/
def less (l k : List Nat) : Bool := if ((l.length : Nat) : Int) = ((k.length : Nat) : Int) then ltB l k else decide (((l.length : Nat) : Int) < ((k.length : Nat) : Int))
theorem less_self (l : List Nat) : less l l = false := by unfold less; rw [if_pos rfl, ltB_self]
theorem less_trans {a b c : List Nat} (h : less a b = true) (g : less b c = true) : less a c = true := by
  unfold less at h g ⊢
  by_cases e1 : ((a.length : Nat) : Int) = ((b.length : Nat) : Int)
  · rw [if_pos e1] at h
    rw [e1]
    by_cases e2 : ((b.length : Nat) : Int) = ((c.length : Nat) : Int)
    · rw [if_pos e2] at g ⊢
      exact ltB_trans h g
    · rw [if_neg e2] at g ⊢
      exact g
  · rw [if_neg e1] at h
    have h := of_decide_eq_true h
    by_cases e2 : ((b.length : Nat) : Int) = ((c.length : Nat) : Int)
    · rw [← e2, if_neg e1]
      exact decide_eq_true h
    · rw [if_neg e2] at g
      have g := of_decide_eq_true g
      rw [if_neg (by omega)]
      exact decide_eq_true (by omega)
/-- what the law's search holds, when these have been tried -/
def Due (rs : List Rule) (ss : List Exc) (ls : List (List Nat)) : Option (List Nat) → Prop
  | none => ∀ l ∈ ls, saysAll (pickR rs l) ss = false
  | some d => d ∈ ls ∧ saysAll (pickR rs d) ss = true ∧ ∀ l ∈ ls, saysAll (pickR rs l) ss = true → less l d = false
def better (l : List Nat) : Option (List Nat) → Bool
  | none => true
  | some d => less l d
theorem due_keep {rs : List Rule} {ss : List Exc} {ls : List (List Nat)} {l : List Nat} {o : Option (List Nat)} (h : Due rs ss ls o) (hl : saysAll (pickR rs l) ss = false ∨ better l o = false) : Due rs ss (ls ++ [l]) o := by
  cases o with
  | none =>
    intro k hk
    rcases List.mem_append.mp hk with hk | hk
    · exact h k hk
    · rw [List.mem_singleton.mp hk]
      rcases hl with hl | hl
      · exact hl
      · cases hl
  | some d =>
    refine ⟨List.mem_append_left _ h.1, h.2.1, fun k hk hs => ?_⟩
    rcases List.mem_append.mp hk with hk | hk
    · exact h.2.2 k hk hs
    · rw [List.mem_singleton.mp hk] at hs ⊢
      rcases hl with hl | hl
      · rw [hl] at hs
        cases hs
      · exact hl
theorem due_set {rs : List Rule} {ss : List Exc} {ls : List (List Nat)} {l : List Nat} {o : Option (List Nat)} (h : Due rs ss ls o) (hl : saysAll (pickR rs l) ss = true) (hb : better l o = true) : Due rs ss (ls ++ [l]) (some l) := by
  refine ⟨List.mem_append_right _ (List.mem_singleton_self _), hl, fun k hk hs => ?_⟩
  rcases List.mem_append.mp hk with hk | hk
  · cases o with
    | none =>
      rw [h k hk] at hs
      cases hs
    | some d =>
      refine Bool.eq_false_iff.mpr fun z => ?_
      have := less_trans z hb
      rw [h.2.2 k hk hs] at this
      cases this
  · rw [List.mem_singleton.mp hk]
    exact less_self l
theorem due_least {rs : List Rule} {ss : List Exc} {o : Option (List Nat)} (h : Due rs ss (setsM rs.length) o) : LeastV rs ss o := by
  cases o with
  | none => exact fun l hl => h l (mem_sets.mpr hl)
  | some d =>
    refine ⟨mem_sets.mp h.1, h.2.1, fun l hl hlt => Bool.eq_false_iff.mpr fun z => ?_, fun l hl he hlt => Bool.eq_false_iff.mpr fun z => ?_⟩
    · have := h.2.2 l (mem_sets.mpr hl) z
      unfold less at this
      rw [if_neg (by omega), decide_eq_true (by omega)] at this
      cases this
    · have := h.2.2 l (mem_sets.mpr hl) z
      unfold less at this
      rw [if_pos (by omega), ltB_of hlt] at this
      cases this
theorem least_one {rs : List Rule} {ss : List Exc} {o o' : Option (List Nat)} (h : LeastV rs ss o) (g : LeastV rs ss o') : o = o' := by
  cases o with
  | none =>
    cases o' with
    | none => rfl
    | some d =>
      have := h d g.1
      rw [g.2.1] at this
      cases this
  | some l =>
    cases o' with
    | none =>
      have := g l h.1
      rw [h.2.1] at this
      cases this
    | some d =>
      have a1 : ¬ d.length < l.length := fun z => by
        have := h.2.2.1 d g.1 z
        rw [g.2.1] at this
        cases this
      have a2 : ¬ l.length < d.length := fun z => by
        have := g.2.2.1 l h.1 z
        rw [h.2.1] at this
        cases this
      rcases lt_total (a := l) (b := d) (by omega) with rfl | c | c
      · rfl
      · have := g.2.2.2 l h.1 (by omega) c
        rw [h.2.1] at this
        cases this
      · have := h.2.2.2 d g.1 (by omega) c
        rw [g.2.1] at this
        cases this
end Say
namespace Say
open PySem PySem.Spec PyProof.Rows L2
section
variable {P : Program} {w : World} {K : PySem.W.Frag} {mg : Str → Option Value} {base : Heap}
abbrev sLF : Stmt := topS 50
theorem scLF : FnScope ["_law_rule_here", "_law_word", "_law_place", "_law_far", "_law_at", "_law_end"] ["_law_rule_here", "_law_word", "_law_place"] (defScope sLF) := ⟨rfl, rfl, rfl, by decide +kernel, rfl, by decide +kernel, by decide +kernel⟩
def spLF : Sp := fun vs H Q _ => ∃ (t : Addr) (ρ : Rule) (wd : List Nat) (p : Nat), vs = [.ref t, .str (T wd), .int p] ∧ H t = some (.tup ρ.vs) ∧ RlOk ρ ∧ p < wd.length ∧ wd.length ≤ 4000000 ∧
  Q (.bl (fitsL ρ (sgn wd) (p + 1))) H
theorem ok_LF {f : Addr} {fd : FuncData} {k : Nat} (F : Fun K "_law_fits" "_law_fits" sLF f fd) (B : Bn mg) : FnOk P w K mg base CX0 (k + 1) f fd ["_law_rule_here", "_law_word", "_law_place"] spLF := by
  refine F.ok scLF (fun vs H Q E h => ?_) (fun cdv A outer s H vs Q E hr h => ?_)
  · obtain ⟨t, ρ, wd, p, rfl, _⟩ := h
    rfl
  · obtain ⟨t, ρ, wd, p, rfl, ht, ho, hp, hw, q⟩ := h
    refine ⟨_, pss_cons (ps_set (i := 3) scLF.nd rfl (.inl rfl) (pe_op op_add_str (pe_op op_add_str pe_str (pv 1)) pe_str))
      (pss_cons (ps_par (i := 4) (j := 5) (by rfl) scLF.nd rfl rfl (by decide) rfl rfl (pa_cons (pe_op op_add (pv 2) pe_int) (pa_cons (pe_op op_add (pe_op op_add (pv 2) pe_int) (pe_callB call_len_str (by rfl) B.len PySem.boot_len (pa_cons (pe_ix ix_tup (pv 0) pe_int (fun _ _ => rfl)) pa_nil))) pa_nil)) (by rfl))
      (pss_cons (ps_if (pt_cmpR op_ne (pe_slice sl_str (pv 3) (po_some (pv 4)) (po_some (pv 5))) (pe_ix ix_tup (pv 0) pe_int (fun _ _ => rfl)) (nomark _)) (pss_one (ps_ret pe_bl)) pss_nil)
      (pss_one (ps_ret (pe_and (pe_or (pe_cmpR op_eq (pe_ix ix_tup (pv 0) pe_int (fun _ _ => rfl)) pe_str (nomark _)) (pe_one (pe_cmpR op_in_sign (pe_ix ix_str (pv 3) (pe_op op_sub (pv 4) pe_int) (fun _ _ => rfl)) (pe_ix ix_tup (pv 0) pe_int (fun _ _ => rfl)) rfl)))
        (pe_one (pe_or (pe_cmpR op_eq (pe_ix ix_tup (pv 0) pe_int (fun _ _ => rfl)) pe_str (nomark _)) (pe_one (pe_cmpR op_in_sign (pe_ix ix_str (pv 3) (pv 5) (fun _ _ => rfl)) (pe_ix ix_tup (pv 0) pe_int (fun _ _ => rfl)) rfl))))))))), ?_⟩
    have hT : SqT K H t ρ.vs := .inl (.inl ht)
    have l2 := ho.o2
    have hzl : (T (sgn wd)).length ≤ sizeLine := by rw [T_len, sgn_len]; exact small (by omega)
    have hol : (T ρ.ow).length ≤ sizeLine := by rw [T_len]; exact small (by omega)
    refine ⟨_, rfl, _, _, rfl, rfl, (by rw [len_hash, T_len]; exact small (by omega)), _, _, rfl, rfl, ?_, ?_⟩
    · rw [hash_app, T_len, len_hash, List.length_cons]
      exact small (by omega)
    rw [hash_app, app_hash]
    show tSeq _ _ _ _ _
    refine ⟨_, rfl, _, _, rfl, rfl, _, rfl, _, _, rfl, rfl, _, rfl, t, _, 1, .str (T ρ.ow), rfl, rfl, hT, atI_nat (j := 1) rfl, _, rfl, hol, _, _, rfl, rfl, _, _, rfl, ?_⟩
    refine ⟨_, rfl, _, rfl, _, rfl, _, rfl, _, rfl, T (sgn wd), rfl, hzl, ?_⟩
    have e1 : ((p : Nat) : Int) + 1 = ((p + 1 : Nat) : Int) := by omega
    have e2 : ((p + 1 : Nat) : Int) + ((T ρ.ow).length : Int) = ((p + 1 + ρ.ow.length : Nat) : Int) := by rw [T_len]; omega
    rw [e1, e2, cut_at (by rw [sgn_len]; omega)]
    refine ⟨_, rfl, t, _, 1, .str (T ρ.ow), rfl, rfl, hT, atI_nat (j := 1) rfl, ?_⟩
    refine ⟨rfl, _, rfl, ?_⟩
    have eow : (V.str (T (((sgn wd).drop (p + 1)).take ρ.ow.length)) = V.str (T ρ.ow)) ↔ ((sgn wd).drop (p + 1)).take ρ.ow.length = ρ.ow :=
      ⟨fun z => T_inj (V.str.inj z), fun z => by rw [z]⟩
    by_cases c : ((sgn wd).drop (p + 1)).take ρ.ow.length = ρ.ow
    · rw [decide_eq_true (eow.mpr c)]
      refine iteF ?_
      have room := fit_room c ho.o1 ho.h35
      unfold fitsL at q
      rw [if_pos c] at q
      have hzl' : (sgn wd).length = wd.length + 2 := sgn_len wd
      refine ⟨_, rfl, t, _, 0, .str (T ρ.ah), rfl, rfl, hT, atI_nat (j := 0) rfl, rfl, _, rfl, ?_⟩
      rw [dec_nil]
      have g1 : (T (sgn wd)).cps.toList[p]? = some ((sgn wd).getD (p + 1 - 1) 0) := by rw [Nat.add_sub_cancel, T_cps, List.getD_eq_getElem?_getD, List.getElem?_eq_getElem (by omega)]; rfl
      have g2 : (T (sgn wd)).cps.toList[p + 1 + ρ.ow.length]? = some ((sgn wd).getD (p + 1 + ρ.ow.length) 0) := by rw [T_cps, List.getD_eq_getElem?_getD, List.getElem?_eq_getElem (by omega)]; rfl
      refine ite2 (fun c1 => ?_) (fun c1 => ?_)
      · refine ⟨true, rfl, iteT ?_⟩
        have q2 : Q (.bl (decide (ρ.be = []) || decide ((sgn wd).getD (p + 1 + ρ.ow.length) 0 ∈ ρ.be))) H := by
          rw [c1, Bool.true_or, Bool.true_and] at q; exact q
        refine ⟨_, rfl, t, _, 2, .str (T ρ.be), rfl, rfl, hT, atI_nat (j := 2) rfl, rfl, _, rfl, ?_⟩
        rw [dec_nil]
        refine ite2 (fun d1 => ?_) (fun d1 => ?_)
        · rw [d1, Bool.true_or] at q2
          exact q2
        · rw [Bool.eq_false_iff.mpr d1, Bool.false_or] at q2
          exact ⟨_, rfl, _, rfl, T (sgn wd), _, _, rfl, rfl, hzl, atI_nat g2, _, rfl, t, _, 2, .str (T ρ.be), rfl, rfl, hT, atI_nat (j := 2) rfl, _, T ρ.be, rfl, rfl, q2⟩
      · rw [Bool.eq_false_iff.mpr c1, Bool.false_or] at q
        refine ⟨_, rfl, _, rfl, _, _, rfl, rfl, T (sgn wd), _, _, rfl, rfl, hzl, atI_of g1 (by omega), _, rfl, t, _, 0, .str (T ρ.ah), rfl, rfl, hT, atI_nat (j := 0) rfl, _, T ρ.ah, rfl, rfl, _, rfl, ?_⟩
        refine ite2 (fun c2 => ?_) (fun c2 => ?_)
        · have q2 : Q (.bl (decide (ρ.be = []) || decide ((sgn wd).getD (p + 1 + ρ.ow.length) 0 ∈ ρ.be))) H := by
            rw [show decide ((sgn wd).getD (p + 1 - 1) 0 ∈ ρ.ah) = true from c2, Bool.true_and] at q; exact q
          refine ⟨_, rfl, t, _, 2, .str (T ρ.be), rfl, rfl, hT, atI_nat (j := 2) rfl, rfl, _, rfl, ?_⟩
          rw [dec_nil]
          refine ite2 (fun d1 => ?_) (fun d1 => ?_)
          · rw [d1, Bool.true_or] at q2
            exact q2
          · rw [Bool.eq_false_iff.mpr d1, Bool.false_or] at q2
            exact ⟨_, rfl, _, rfl, T (sgn wd), _, _, rfl, rfl, hzl, atI_nat g2, _, rfl, t, _, 2, .str (T ρ.be), rfl, rfl, hT, atI_nat (j := 2) rfl, _, T ρ.be, rfl, rfl, q2⟩
        · rw [show decide ((sgn wd).getD (p + 1 - 1) 0 ∈ ρ.ah) = false from Bool.eq_false_iff.mpr c2, Bool.false_and] at q
          exact q
    · rw [decide_eq_false fun z => c (eow.mp z)]
      refine iteT ?_
      unfold fitsL at q
      rw [if_neg c] at q
      exact q
end
end Say
namespace Say
open PySem PySem.Spec PyProof.Rows L2
/-- the numbers of all rules that fit -/
def allFit (rs : List Rule) (z : List Nat) (i n : Nat) : List Nat := (List.range n).filter fun k => fitsL (ruleAt rs k) z i
theorem ff_all (rs : List Rule) (z : List Nat) (i : Nat) : ff rs z i = (allFit rs z i rs.length).head? := by
  unfold allFit
  rw [List.head?_filter]
  cases e : ff rs z i with
  | none =>
    symm
    refine List.find?_eq_none.mpr fun k hk => ?_
    have hk := List.mem_range.mp hk
    have := List.findIdx?_eq_none_iff.mp e rs[k] (List.getElem_mem hk)
    rw [ruleAt_eq (List.getElem?_eq_getElem hk), this]
    exact Bool.false_ne_true
  | some k =>
    symm
    obtain ⟨h1, h2, h3⟩ := List.findIdx?_eq_some_iff_getElem.mp e
    refine List.find?_range_eq_some.mpr ⟨?_, List.mem_range.mpr h1, fun j hj => ?_⟩
    · rw [ruleAt_eq (List.getElem?_eq_getElem h1)]
      exact h2
    · have := h3 j hj
      rw [ruleAt_eq (List.getElem?_eq_getElem (show j < rs.length by omega))]
      simpa using this
theorem allFit_next (rs : List Rule) (z : List Nat) (i n : Nat) : allFit rs z i (n + 1) = allFit rs z i n ++ (if fitsL (ruleAt rs n) z i = true then [n] else []) := by
  unfold allFit
  rw [List.range_succ, List.filter_append]
  congr 1
  by_cases c : fitsL (ruleAt rs n) z i = true
  · rw [if_pos c]
    exact List.filter_cons_of_pos (p := fun k => fitsL (ruleAt rs k) z i) c
  · rw [if_neg c]
    exact List.filter_cons_of_neg (p := fun k => fitsL (ruleAt rs k) z i) c
theorem allFit_len (rs : List Rule) (z : List Nat) (i n : Nat) : (allFit rs z i n).length ≤ n := by
  unfold allFit
  have := List.length_filter_le (fun k => fitsL (ruleAt rs k) z i) (List.range n)
  rwa [List.length_range] at this
section
variable {P : Program} {w : World} {K : PySem.W.Frag} {mg : Str → Option Value} {base : Heap}
theorem dp_ints {H : Hp} : ∀ ks : List Nat, DpAll K H (ks.map fun k => V.int (k : Nat)) (ks.map fun k => PyData.int (k : Nat))
  | [] => .nil
  | k :: r => .cons (.int _) (dp_ints r)
theorem eqv_nil (ds : List PyData) : PyData.eqv (.list ds) (.list []) = ds.isEmpty := by
  cases ds <;> rfl
theorem shaped_ints (ks : List Nat) : SeqAt.shaped (.list (ks.map fun k => PyData.int (k : Nat))) = true := by
  have := PySem.W.ke_shaped_ints (ks.map fun k => ((k : Nat) : Int))
  rw [List.map_map] at this
  exact this
abbrev sLW : Stmt := topS 51
theorem scLW : FnScope ["_law_rules_here", "_law_word", "_law_place", "_law_found", "_law_some", "_law_k"] ["_law_rules_here", "_law_word"] (defScope sLW) := ⟨rfl, rfl, rfl, by decide +kernel, rfl, by decide +kernel, by decide +kernel⟩
def spLW : Sp := fun vs H Q _ => ∃ (R : Addr) (rs : List Rule) (wd : List Nat), vs = [.ref R, .str (T wd)] ∧ RulesAt H R rs ∧ (∀ ρ ∈ rs, RlOk ρ) ∧ wd.length ≤ 4000000 ∧ rs.length ≤ 500 ∧
  ∀ (t : Addr) (H' : Hp), Same H H' → LWAt H' t (W rs wd) → Q (.ref t) H'
theorem ok_LW {f : Addr} {fd : FuncData} (F : Fun K "_law_walk" "_law_walk" sLW f fd) (B : Bn mg) (DF : Df P w K mg base "_law_fits" ["_law_rule_here", "_law_word", "_law_place"] 1 spLF) : FnOk P w K mg base CX0 2 f fd ["_law_rules_here", "_law_word"] spLW := by
  obtain ⟨fF, fdF, GF, kF, bF, mF⟩ := DF
  refine F.ok scLW (fun vs H Q E h => ?_) (fun cdv A outer s H vs Q E hr h => ?_)
  · obtain ⟨R, rs, wd, rfl, _⟩ := h
    rfl
  · obtain ⟨R, rs, wd, rfl, hR, ho, hw, hrs, q⟩ := h
    refine ⟨_, pss_cons (ps_asg (pe_tup (pa_cons pe_int (pa_cons (pe_lst pa_nil) pa_nil))) (pg_tup (by rfl) (pgs_cons (pg_name (i := 2) scLW.nd rfl (.inr rfl)) (pgs_cons (pg_name (i := 3) scLW.nd rfl (.inl rfl)) pgs_nil))))
      (pss_cons (ps_while PassesOwn.never (pt_cmpR op_lt (pv 2) (pe_callB call_len_str (by rfl) B.len PySem.boot_len (pa_cons (pv 1) pa_nil)) (nomark _))
        (pss_cons (ps_setLc (i := 4) (own := [("_law_k", 5)]) (g := gName 5) (te := tVar 5) (tt := tB (tCall spLF [] E0 (tCons (tOp (rIxT K) (tVar 0) (tVar 5)) (tCons (tVar 1) (tCons (tVar 2) tNil))))) rfl scLW.nd rfl rfl (sw_true rfl rfl rfl (by decide +kernel))
            (pi_range1 rfl B.rng (pa_cons (pe_callB call_len (by rfl) B.len PySem.boot_len (pa_cons (pv 0) pa_nil)) pa_nil))
            (blkOk_by (N := ["_law_rules_here", "_law_word", "_law_place", "_law_found", "_law_some", "_law_k"]) (sc := defScope sLW) (by decide +kernel)) (fun _ _ _ _ _ => pg_name (i := 5) scLW.nd rfl (.inl rfl))
            (fun _ _ _ _ _ => pts_one (pt_val (pe_call GF hr (by rfl) mF kF bF .nil pass0 (pa_cons (pe_ix ix_tup (pv 0) (pv 5) (fun _ _ => rfl)) (pa_cons (pv 1) (pa_cons (pv 2) pa_nil)))))) (fun _ _ _ _ _ => pv 5))
        (pss_cons (ps_if (pt_cmpR (op_eqD hr.units) (pv 4) (pe_lst pa_nil) (nomark _)) (pss_one (ps_ret (pe_tup (pa_cons pe_str (pa_cons (pv 2) pa_nil))))) pss_nil)
        (pss_cons (ps_expr (pe_bm PySem.F.plainAttrs_list PySem.F.slot_list_append PySem.F.type_list_append mt_append (pv 3) (pa_cons (pe_tup (pa_cons (pv 2) (pa_cons (pe_ix ix_list (pv 4) pe_int (fun _ _ => rfl)) pa_nil))) pa_nil)))
        (pss_one (ps_set (i := 2) scLW.nd rfl (.inr rfl) (pe_op op_add (pv 2) (pe_callB call_len_str (by rfl) B.len PySem.boot_len (pa_cons (pe_ix ix_tup (pe_ix ix_tup (pv 0) (pe_ix ix_list (pv 4) pe_int (fun _ _ => rfl)) (fun _ _ => rfl)) pe_int (fun _ _ => rfl)) pa_nil)))))))))
      (pss_one (ps_ret (pe_tup (pa_cons pe_str (pa_cons (pv 3) pa_nil)))))), ?_⟩
    refine ⟨(by show 0 ≤ sizeLine; decide), fun D hD => ?_⟩
    refine ⟨(by show 2 ≤ sizeLine; decide), fun u hu => ?_⟩
    refine ⟨u, _, rfl, .inl (.inl upd_same), rfl, _, _, rfl, _, _, rfl, rfl, ?_⟩
    obtain ⟨rts, hRt, hRp⟩ := id hR
    have hz0 : (T wd).length ≤ sizeLine := by rw [T_len]; exact small (by omega)
    have s0 : Same H (upd H D (.lst [])) := same_new hD _
    have s1 : Same H (upd (upd H D (.lst [])) u (.tup [.int 0, .ref D])) := s0.trans (same_new hu _)
    have hD1 : (upd (upd H D (.lst [])) u (.tup [.int 0, .ref D])) D = some (.lst []) := same_new hu _ _ _ upd_same
    refine ⟨fun m σ H2 => ∃ (p : Nat) (acc : List (Nat × Nat)) (v4 : Option V), σ = [some (.ref R), some (.str (T wd)), some (.int p), some (.ref D), v4, none] ∧ wd.length + 1 ≤ p + m ∧ Same H H2 ∧ StepsAt H2 D acc ∧
      W rs wd = (acc ++ (wk rs (sgn wd) m (p + 1)).1, (wk rs (sgn wd) m (p + 1)).2), ⟨wd.length + 1, 0, [], _, rfl, by omega, s1, ⟨[], hD1, .nil⟩, rfl⟩, fun m σ H2 hW => ?_⟩
    obtain ⟨p, acc, v4, rfl, hm, s2, hS, hW⟩ := hW
    refine ⟨_, rfl, _, rfl, _, rfl, hz0, _, _, rfl, rfl, _, rfl, ite2 (fun c => ?_) (fun c => ?_)⟩
    · have c' : (p : Int) < ((T wd).length : Int) := of_decide_eq_true c
      rw [T_len] at c'
      have hp : p < wd.length := by omega
      have hlt : p + 1 < (sgn wd).length - 1 := by rw [sgn_len]; omega
      obtain ⟨m', rfl⟩ : ∃ m', m = m' + 1 := ⟨m - 1, by omega⟩
      refine ⟨fun σ' H' => ∃ (p : Nat) (acc : List (Nat × Nat)) (v4 : Option V), σ' = [some (.ref R), some (.str (T wd)), some (.int p), some (.ref D), v4, none] ∧ wd.length + 1 ≤ p + m' ∧ Same H H' ∧ StepsAt H' D acc ∧
        W rs wd = (acc ++ (wk rs (sgn wd) m' (p + 1)).1, (wk rs (sgn wd) m' (p + 1)).2), fun σ' H' h => ⟨m', Nat.lt_succ_self _, h⟩, ?_⟩
      have rl : (rts.map V.ref).length = rs.length := by rw [List.length_map, paired_len hRp]
      refine ⟨_, rfl, _, _, rfl, .inr ⟨_, .inl (.inl (s2 _ _ hRt)), rfl⟩, _, rfl, by omega, by rw [rl]; omega, fun S hSn => ?_⟩
      have hSnD : D ≠ S := by
        obtain ⟨ts, h1, _⟩ := hS
        exact ne_of_none h1 hSn
      refine lc_it (walk_range) (fun j H3 => H3 S = some (.lst ((allFit rs (sgn wd) (p + 1) j).map fun k => V.int (k : Nat))) ∧ Same H2 H3) ?_ (fun _ _ _ _ => trivial) ?_ ?_
      · exact ⟨upd_same, same_new hSn _⟩
      · rintro j x H3 H3' hj ⟨e1, e2⟩ ⟨rfl, rfl⟩
        rw [rl] at hj
        have hj : j < rs.length := by omega
        obtain ⟨a, ha, hat⟩ := paired_at' hRp (List.getElem?_eq_getElem hj)
        have er : ruleAt rs j = rs[j] := ruleAt_eq (List.getElem?_eq_getElem hj)
        have sR := s2.trans e2
        have en := allFit_next rs (sgn wd) (p + 1) j
        rw [er] at en
        refine ⟨rfl, ?_⟩
        refine ⟨_, rfl, _, rfl, R, _, 0 + (j : Int), .ref a, rfl, rfl, .inl (.inl (sR _ _ hRt)), atI_of (by rw [List.getElem?_map, ha]; rfl) (by omega), _, rfl, _, rfl, a, rs[j], wd, p, rfl, sR _ _ hat, ho _ (List.getElem_mem hj), hp, by omega, _, rfl, ite2 (fun c => ?_) (fun c => ?_)⟩
        · rw [if_pos c] at en
          refine ⟨_, rfl, _, e1, ?_, ?_, ?_⟩
          · rw [List.length_map]
            have := allFit_len rs (sgn wd) (p + 1) j
            exact smallM (by omega)
          · rw [upd_same, en, List.map_append]
            show some (HO.lst (_ ++ [V.int (0 + (j : Int))])) = _
            rw [Int.zero_add]
            rfl
          · exact fun b u q => by
              rw [upd_ne (ne_of_none q hSn)]
              exact e2 b u q
        · rw [if_neg c, List.append_nil] at en
          exact ⟨by rw [en]; exact e1, e2⟩
      · rintro H3 ⟨e1, e2⟩
        rw [show ((((rts.map V.ref).length : Nat) : Int)).toNat = rs.length by rw [rl]; omega] at e1
        have s3 := s2.trans e2
        obtain ⟨ts, hDl, hDp⟩ := hS.same e2
        have eff := ff_all rs (sgn wd) (p + 1)
        refine ⟨_, rfl, (by show 0 ≤ sizeLine; decide), fun N hN => ?_⟩
        have sN := same_new hN (.lst [])
        have e1N := sN _ _ e1
        refine ⟨_, .list [], .lst (.inl (.inl e1N)) (dp_ints _), .lst (.inl (.inl upd_same)) .nil, shaped_ints _, by decide +kernel, _, rfl, ?_⟩
        rw [eqv_nil]
        have s3N := s3.trans sN
        cases ea : allFit rs (sgn wd) (p + 1) rs.length with
        | nil =>
          rw [ea] at eff
          rw [wk_none hlt eff] at hW
          refine iteT ?_
          refine ⟨_, rfl, (by show 2 ≤ sizeLine; decide), fun t ht => ?_⟩
          refine q t _ (s3N.trans (same_new ht _)) ?_
          unfold LWAt
          rw [hW]
          show upd _ t _ t = _
          rw [upd_same]
          rfl
        | cons k r =>
          rw [ea] at eff
          have eff : ff rs (sgn wd) (p + 1) = some k := eff
          rw [wk_some hlt eff] at hW
          have hk := ff_lt eff
          obtain ⟨a, ha, hat⟩ := paired_at' hRp (List.getElem?_eq_getElem hk)
          have hm2 := ho _ (List.getElem_mem hk)
          have er : ruleAt rs k = rs[k] := ruleAt_eq (List.getElem?_eq_getElem hk)
          refine iteF ?_
          rw [ea] at e1N
          have hDlN := sN _ _ hDl
          refine ⟨_, rfl, .inl ⟨rfl, _, .inl (.inl hDlN)⟩, _, rfl, _, rfl, S, _, 0, .int (k : Nat), rfl, rfl, .inl (.inl e1N), atI_nat (j := 0) rfl, (by show 2 ≤ sizeLine; decide), fun t ht => ?_⟩
          have sm := same_new ht (.tup [.int (p : Nat), .int (k : Nat)])
          have hDl' := sm _ _ hDlN
          have sall : Same H (upd (upd (upd H3 N (.lst [])) t (.tup [.int (p : Nat), .int (k : Nat)])) D (.lst (ts.map V.ref ++ [.ref t]))) := fun b u e => by
            rw [upd_ne (ne_of_none e hD)]
            exact sm _ _ (s3N _ _ e)
          refine ⟨D, _, _, rfl, rfl, hDl', ?_, ?_⟩
          · rw [List.length_map, paired_len hDp]
            have l1 : (W rs wd).1.length ≤ wd.length + 1 := wk_len rs (sgn wd) (wd.length + 1) 1
            rw [hW] at l1
            simp at l1
            exact smallM (by omega)
          · have e1M : (upd (upd (upd H3 N (.lst [])) t (.tup [.int (p : Nat), .int (k : Nat)])) D (.lst (ts.map V.ref ++ [.ref t]))) S = some (.lst ((k :: r).map fun k => V.int (k : Nat))) := by
              rw [upd_ne hSnD.symm]
              exact sm _ _ e1N
            refine ⟨_, rfl, _, rfl, _, rfl, S, _, 0, .int (k : Nat), rfl, rfl, .inl (.inl e1M), atI_nat (j := 0) rfl, R, _, (k : Int), .ref a, rfl, rfl, .inl (.inl (sall _ _ hRt)), atI_nat (by rw [List.getElem?_map, ha]; rfl), a, _, 1, .str (T rs[k].ow), rfl, rfl, .inl (.inl (sall _ _ hat)), atI_nat (j := 1) rfl, _, rfl, (by rw [T_len]; have := hm2.o2; exact small (by omega)), _, _, rfl, rfl, ?_⟩
            refine ⟨p + rs[k].ow.length, acc ++ [(p, k)], some (.ref S), ?_, by have := hm2.o1; omega, sall, ?_, ?_⟩
            · have ee : ((p + rs[k].ow.length : Nat) : Int) = (p : Int) + ((T rs[k].ow).length : Int) := by rw [T_len]; omega
              rw [ee]
              rfl
            · refine ⟨ts ++ [t], by rw [upd_same, List.map_append]; rfl, paired_app (paired_mono (fun t' s h => ?_) hDp) (.cons ?_ .nil)⟩
              · rw [upd_ne (ne_of h hDl (by intro z; cases z))]
                exact sm _ _ (sN _ _ h)
              · rw [upd_ne (ne_of_none hDlN ht).symm, upd_same]
            · rw [hW, er, List.append_assoc, Nat.add_right_comm p rs[k].ow.length 1, Nat.add_sub_cancel]
              rfl
    · have c' : ¬ (p : Int) < ((T wd).length : Int) := of_decide_eq_false (Bool.eq_false_iff.mpr c)
      rw [T_len] at c'
      rw [wk_end rs (sgn wd) m (p + 1) (by rw [sgn_len]; omega)] at hW
      refine ⟨_, rfl, (by show 2 ≤ sizeLine; decide), fun t ht => ?_⟩
      have sm := same_new ht (.tup [.str (Str.ofString ""), .ref D])
      refine q t _ (s2.trans sm) ?_
      unfold LWAt
      rw [hW]
      refine ⟨D, ?_, ?_⟩
      · rw [upd_same, show Str.ofString "" = T [] from nil_eq]
      · rw [List.append_nil]
        exact hS.same sm
end
end Say
namespace Say
open PySem PySem.Spec PyProof.Rows L2
theorem Same.seqT {K : PySem.W.Frag} {H H' : Hp} {a : Addr} {xs : List V} (e : Same H H') (h : SqT K H a xs) : SqT K H' a xs := by
  rcases h with (h | ⟨o, h⟩) | h
  · exact .inl (.inl (e _ _ h))
  · exact .inl (.inr ⟨o, e _ _ h⟩)
  · exact .inr h
mutual
theorem dp_same {K : PySem.W.Frag} {H H' : Hp} (e : Same H H') : ∀ {v : V} {d : PyData}, Dp K H v d → Dp K H' v d
  | _, _, .non => .non
  | _, _, .bl b => .bl b
  | _, _, .int i => .int i
  | _, _, .str x => .str x
  | _, _, .lst h a => .lst (Same.seq e h) (dpa_same e a)
  | _, _, .tup h a => .tup (Same.seqT e h) (dpa_same e a)
theorem dpa_same {K : PySem.W.Frag} {H H' : Hp} (e : Same H H') : ∀ {vs : List V} {ds : List PyData}, DpAll K H vs ds → DpAll K H' vs ds
  | _, _, .nil => .nil
  | _, _, .cons h t => .cons (dp_same e h) (dpa_same e t)
end
theorem dpa_len {K : PySem.W.Frag} {H : Hp} : ∀ {vs : List V} {ds : List PyData}, DpAll K H vs ds → vs.length = ds.length
  | _, _, .nil => rfl
  | _, _, .cons _ t => by simp [dpa_len t]
theorem dpa_at {K : PySem.W.Frag} {H : Hp} : ∀ {vs : List V} {ds : List PyData}, DpAll K H vs ds → ∀ {i : Nat} {d : PyData}, ds[i]? = some d → ∃ v, vs[i]? = some v ∧ Dp K H v d
  | _, _, .nil, i, d, h => by cases h
  | _, _, .cons a t, 0, d, h => by
    cases h
    exact ⟨_, rfl, a⟩
  | _, _, .cons a t, i + 1, d, h => dpa_at t h
/-- data with no dicts, its lists not long -/
inductive Few : PyData → Prop
  | non : Few .none
  | bl (b : Bool) : Few (.bool b)
  | int (i : Int) : Few (.int i)
  | str (x : Str) : Few (.str x)
  | lst {ds : List PyData} : ds.length ≤ 1000 → (∀ d ∈ ds, Few d) → Few (.list ds)
  | tup {ds : List PyData} : ds.length ≤ 1000 → (∀ d ∈ ds, Few d) → Few (.tuple ds)
theorem depth_mem : ∀ {ds : List PyData} {d : PyData}, d ∈ ds → d.depth ≤ PyData.depthAll ds
  | x :: r, d, h => by
    unfold PyData.depthAll
    rcases List.mem_cons.mp h with rfl | h
    · exact Nat.le_max_left _ _
    · exact Nat.le_trans (depth_mem h) (Nat.le_max_right _ _)
end Say
namespace Say
open PySem PySem.Spec PyProof.Rows L2
/-- a list of numbers as data -/
theorem dp_nats {K : PySem.W.Frag} {H : Hp} {D : Addr} {ks : List Nat} (h : H D = some (.lst (ks.map fun k => V.int (k : Nat)))) : Dp K H (.ref D) (.list (ks.map fun k => PyData.int (k : Nat))) := .lst (.inl (.inl h)) (dp_ints ks)
theorem few_nats {ks : List Nat} (h : ks.length ≤ 1000) : Few (.list (ks.map fun k => PyData.int (k : Nat))) := by
  refine .lst (by rw [List.length_map]; exact h) fun d hd => ?_
  obtain ⟨k, _, rfl⟩ := List.mem_map.mp hd
  exact .int _
theorem depth_nats : ∀ ks : List Nat, PyData.depthAll (ks.map fun k => PyData.int (k : Nat)) = 0
  | [] => rfl
  | k :: r => by
    show max 0 (PyData.depthAll (r.map fun k => PyData.int (k : Nat))) = 0
    rw [depth_nats r]
    rfl
end Say
namespace SrtT
open PySem PySem.Spec PyProof.Rows L2 SrtO
/-- by the first text, then by the second -/
def lexT (p q : Str × Str) : Bool := if p.1 = q.1 then decide (p.2.cps.toList < q.2.cps.toList) else decide (p.1.cps.toList < q.1.cps.toList)
theorem str_of {x y : Str} (h : x.cps.toList = y.cps.toList) : x = y := TL.ext_tl h
theorem lexT_no {p q : Str × Str} : lexT p q = false ↔ (q.1.cps.toList < p.1.cps.toList ∨ (p.1 = q.1 ∧ q.2.cps.toList ≤ p.2.cps.toList)) := by
  unfold lexT
  by_cases h : p.1 = q.1
  · rw [if_pos h]
    constructor
    · intro z
      exact .inr ⟨h, List.not_lt.mp (of_decide_eq_false z)⟩
    · rintro (z | ⟨_, z⟩)
      · rw [h] at z
        exact absurd z (List.lt_irrefl _)
      · exact decide_eq_false (List.not_lt.mpr z)
  · rw [if_neg h]
    constructor
    · intro z
      have le := List.not_lt.mp (of_decide_eq_false z)
      refine .inl ?_
      refine Decidable.byContradiction fun n => h (str_of (List.le_antisymm (List.not_lt.mp n) le))
    · rintro (z | ⟨e, _⟩)
      · exact decide_eq_false (List.not_lt.mpr (List.le_of_lt z))
      · exact absurd e h
theorem lexT_yes {p q : Str × Str} (h : lexT p q = true) : p.1.cps.toList < q.1.cps.toList ∨ (p.1 = q.1 ∧ p.2.cps.toList < q.2.cps.toList) := by
  unfold lexT at h
  by_cases e : p.1 = q.1
  · rw [if_pos e] at h
    exact .inr ⟨e, of_decide_eq_true h⟩
  · rw [if_neg e] at h
    exact .inl (of_decide_eq_true h)
theorem swoT {α : Type} (k : α → Str × Str) : Swo fun v u => lexT (k v) (k u) := by
  refine ⟨fun x y h => ?_, fun x y z h1 h2 => ?_⟩
  · refine lexT_no.mpr ?_
    rcases lexT_yes h with q | ⟨e, q⟩
    · exact .inl q
    · exact .inr ⟨e.symm, List.le_of_lt q⟩
  · refine lexT_no.mpr ?_
    rcases lexT_no.mp h1 with a | ⟨e, a⟩
    · rcases lexT_no.mp h2 with b | ⟨e', b⟩
      · exact .inl (List.lt_trans a b)
      · exact .inl (by rw [e']; exact a)
    · rcases lexT_no.mp h2 with b | ⟨e', b⟩
      · exact .inl (by rw [← e]; exact b)
      · exact .inr ⟨e'.trans e, List.le_trans a b⟩
/-- v is a tuple of the two texts -/
def IsTx (h : Heap) (v : Value) (x y : Str) : Prop := ∃ a o t u n, v = .ref a ∧ h.get? a = some o ∧ o.cls = .type "tuple" ∧ o.data = .seq #[.str x t, .str y u] n
theorem IsTx.keeps {h h' : Heap} {v : Value} {x y : Str} (p : IsTx h v x y) (k : ∀ b o, h.get? b = some o → o.cls = .type "tuple" → h'.get? b = some o) : IsTx h' v x y := by
  obtain ⟨a, o, t, u, n, e, obO, clC, dtD⟩ := p
  exact ⟨a, o, t, u, n, e, k _ _ obO clC, clC, dtD⟩
section
variable {prog : Program} {w : World} {A : Around} {E : Value → Shared → Prop} {s : Shared}
theorem tx_cmp {vs : List Value} {k : Value → Str × Str} (txP : ∀ v ∈ vs, IsTx s.heap v (k v).1 (k v).2) : Cmp prog w A s (tuples' true) (fun p => p.1 ∈ vs) (lt2 fun v u => lexT (k v) (k u)) := by
  intro p q hm hm'
  have h1 := txP _ hm
  have h2 := txP _ hm'
  show wpAny (model prog w) A (keyLt' (tuples' true) p.1 q.1) (fun r s' => s' = s ∧ r = lexT (k p.1) (k q.1)) (fun _ _ => False) s
  unfold lexT
  generalize (k p.1).1 = x at h1 ⊢
  generalize (k p.1).2 = y at h1 ⊢
  generalize (k q.1).1 = x' at h2 ⊢
  generalize (k q.1).2 = y' at h2 ⊢
  obtain ⟨a, o, t, u, n, e, obO, clC, dtD⟩ := h1
  obtain ⟨a', o', t', u', n', e', ho', hc', hd'⟩ := h2
  rw [e, e']
  refine PySem.W.kat_lt obO dtD ho' hd' ?_
  show PySem.W.KatLex prog w A true (decide (2 < 2)) _ [(.str x t, .str x' t'), (.str y u, .str y' u')] 0 s
  refine PySem.W.kat_cons (SeqAt.EqAt.str_str x t x' t' prog w _ _ ?_)
  refine PySem.W.kat_go (fun q1 => ?_) (fun q1 => ?_)
  · have ex : x = x' := by simpa using q1
    refine PySem.W.kat_yes (PySem.W.kat_cons (SeqAt.EqAt.str_str y u y' u' prog w _ _ ?_))
    refine PySem.W.kat_go (fun q2 => ?_) (fun q2 => ?_)
    · have ey : y = y' := by simpa using q2
      have q3 : (if x = x' then decide (y.cps.toList < y'.cps.toList) else decide (x.cps.toList < x'.cps.toList)) = false := by
        rw [if_pos ex, ey]
        exact decide_eq_false (List.lt_irrefl _)
      exact PySem.W.kat_yes (PySem.W.kat_nil ⟨rfl, q3.symm⟩)
    · have q3 : (if x = x' then decide (y.cps.toList < y'.cps.toList) else decide (x.cps.toList < x'.cps.toList)) = decide (y.cps.toList < y'.cps.toList) := if_pos ex
      refine PySem.W.kat_no (PySem.W.kat_one _ _ (PyProof.Rows.lt_str ?_))
      exact (show s = s ∧ decide (y.cps.toList < y'.cps.toList) = (if x = x' then decide (y.cps.toList < y'.cps.toList) else decide (x.cps.toList < x'.cps.toList)) from ⟨rfl, q3.symm⟩)
  · have ex : ¬ x = x' := by simpa using q1
    have q3 : (if x = x' then decide (y.cps.toList < y'.cps.toList) else decide (x.cps.toList < x'.cps.toList)) = decide (x.cps.toList < x'.cps.toList) := if_neg ex
    exact PySem.W.kat_no (oneLt_str ⟨rfl, q3.symm⟩)
theorem firsts_tx {h : Heap} : ∀ {vs : List Value}, (∀ v ∈ vs, ∃ x y, IsTx h v x y) → ∃ fs, PySem.W.KatTups h vs fs ∧ fs.length = vs.length ∧ ∀ f ∈ fs, ∃ x t, f = Value.str x t
  | [], _ => ⟨[], trivial, rfl, fun _ h => nomatch h⟩
  | v :: vs, txP => by
    obtain ⟨x, y, a, o, t, u, n, rfl, obO, clC, dtD⟩ := txP v (List.mem_cons_self ..)
    obtain ⟨fs, h1, h2, h3⟩ := firsts_tx (vs := vs) fun v inV => txP v (List.mem_cons_of_mem _ inV)
    refine ⟨.str x t :: fs, .cons obO clC dtD rfl h1, by simp [h2], fun f fresh0 => ?_⟩
    rcases List.mem_cons.mp fresh0 with rfl | fresh0
    · exact ⟨_, _, rfl⟩
    · exact h3 f fresh0
theorem tx_sortable {a : Addr} {vs : List Value} {k : Value → Str × Str} (h0 : 0 < vs.length) (txP : ∀ v ∈ vs, IsTx s.heap v (k v).1 (k v).2) (atA : ∀ o, s.heap.get? a = some o → o.cls ≠ .type "tuple") : SortableO prog w A s a vs fun v u => lexT (k v) (k u) := by
  intro h' keep
  have hp' : ∀ v ∈ vs, IsTx h' v (k v).1 (k v).2 := fun v hm => (txP v hm).keeps fun b o e c => keep b o (fun z => by subst z; exact atA o e c) e
  obtain ⟨fs, h1, h2, h3⟩ := firsts_tx fun v hm => ⟨_, _, hp' v hm⟩
  refine ⟨tuples' true, fun Q E isT => ?_, tx_cmp hp'⟩
  refine PySem.W.kat_kind (T := .type "str") h1 (by omega) (fun f hm => ?_) (by rfl) ?_
  · obtain ⟨x, t, rfl⟩ := h3 f hm
    exact PySem.W.Looks.now
  · have e : (Value.type "str" != Value.type "tuple") = true := by first | decide +kernel | rfl | decide
    rw [e]
    exact isT
end
/-- the texts of a tuple of two -/
def txOf (h : Heap) (v : Value) : Str × Str := match v with
  | .ref a => match h.get? a with
    | some o => match o.data with
      | .seq its _ => match its.toList with
        | [.str x _, .str y _] => (x, y)
        | _ => (Str.empty, Str.empty)
      | _ => (Str.empty, Str.empty)
    | none => (Str.empty, Str.empty)
  | _ => (Str.empty, Str.empty)
theorem IsTx.tx {h : Heap} {v : Value} {x y : Str} (p : IsTx h v x y) : txOf h v = (x, y) := by
  obtain ⟨a, o, t, u, n, rfl, obO, clC, dtD⟩ := p
  unfold txOf
  simp only [obO, dtD]
end SrtT
namespace Say
open PySem PySem.Spec PyProof.Rows L2 L2.DX
section
variable {X : Cx}
/-- d.items() of a dict with int and text keys -/
def rItemsK : V → List V → Hp → VK → Prop := fun x xs H Q => ∃ (a : Addr) (kvs : List (Key × V)), x = .ref a ∧ xs = [] ∧ H a = some (.dK kvs) ∧ ∀ p, H p = none → Q (.ref p) (upd H p (itemsO p a))
theorem mt_itemsK : MtR X "dict.items" rItemsK := by
  intro pn s σ H x xs v args Q I rx rxs h
  obtain ⟨a, kvs, rfl, rfl, atA, q⟩ := h
  cases rx
  cases rxs
  obtain ⟨szT, dtD, vs, kv, o, es, ep, obO, atI0, hdat, _⟩ := (show ObjOk X.prog X.w H s.heap a (.dK kvs) from I.hok a _ atA)
  refine DT.callItems (es := es) (ep := ep) dtD ⟨o, obO, atI0, hdat⟩ ?_
  have fresh0 : H s.heap.objs.size = none := I.hok.fresh (Nat.le_refl _)
  exact ⟨.ref s.heap.objs.size, upd H s.heap.objs.size (itemsO s.heap.objs.size a), I.laid (t' := s.toks) (fun b u e => Heap.get?_push_of_some _ e) (Nat.le_refl _) (itemsO_ok (Heap.get?_push_size _ rfl)), rfl, q _ fresh0⟩
abbrev entS (e : Str × Str) : Key × V := (Sum.inr e.1, V.str e.2)
/-- sorted(d.items()), keys and values texts -/
def rSortTx : List V → Hp → VK → Prop := fun vs H Q => ∃ (p a : Addr) (es : List (Str × Str)), vs = [.ref p] ∧ H p = some (itemsO p a) ∧ H a = some (.dK (es.map entS)) ∧ es.length ≤ 1000 ∧
  ∀ (H' : Hp) (l : Addr) (ps : List (Addr × Str × Str)), (∀ b o, H b = some o → H' b = some o) → (ps.map (·.2)).Perm es → (ps.map (·.2)).Pairwise (fun e f => SrtT.lexT f e = false) → H l = none → H' l = some (.lst (ps.map fun z => V.ref z.1)) →
    (∀ z ∈ ps, H' z.1 = some (.tup [.str z.2.1, .str z.2.2])) → Q (.ref l) H'
theorem key_txt {x : Str} {v : Value} (h : keyIs (Sum.inr x : Key) v = true) : ∃ t, v = .str x t := by
  rcases keyIs_shape h with ⟨i, t, e, rfl⟩ | ⟨y, t, e, rfl⟩
  · cases e
  · cases e
    exact ⟨t, rfl⟩
theorem ent_at {P : Program} {w : World} : ∀ {l : List DictEntry} {vs : List (Key × Value)} {ks : List (Str × Str)}, Pairs (mixKind P w) l vs → KV (ks.map entS) vs → Paired (fun (e : DictEntry) (k : Str × Str) => (∃ t, e.key = .str k.1 t) ∧ ∃ u, e.val = .str k.2 u) l ks
  | [], _, ks, .nil, kv => by
    cases ks with
    | nil => exact .nil
    | cons k r => cases kv
  | e :: l, _, ks, .cons h1 h2 h3, kv => by
    cases ks with
    | nil => cases kv
    | cons k r =>
      cases kv with
      | cons g1 g2 =>
        refine .cons ⟨?_, ?_⟩ (ent_at h3 g2)
        · obtain ⟨g3, g4⟩ := g1
          rw [← g3] at h1
          exact key_txt h1
        · rw [h2]
          exact g1.2
def adr : Value → Addr
  | .ref a => a
  | _ => 0
theorem cr_sortedTx (clC : X.calm = true) : CallR X (.builtin "sorted") rSortTx := by
  intro pn s σ H xs args Q I r h
  obtain ⟨p, a, ks, rfl, txP, atA, h64, q⟩ := h
  obtain rfl := Vals.ref1 r
  have vw : s.heap.IsItemsView p a := (show ObjOk X.prog X.w H s.heap p (itemsO p a) from I.hok p _ txP).1
  obtain ⟨szT, dtD, vs, kv, o, es, ep, obO, atI0, hdat, hKo, hPs, hn⟩ := (show ObjOk X.prog X.w H s.heap a (.dK (ks.map entS)) from I.hok a _ atA)
  have ents := ent_at hPs kv
  have l0 : es.size = ks.length := by rw [← Array.length_toList]; exact paired_len ents
  have noH : X.A.handled = none := I.ok.hd clC
  refine DT.sortedI (es := es) (ep := ep) noH vw ⟨o, obO, atI0, hdat⟩ (by rw [sizeLine_eq]; omega) fun h' tkn adrs kpT ltN lnT mdG => ?_
  have lenA : adrs.length = ks.length := by omega
  have nodupA : adrs.Nodup := List.Pairwise.imp (fun h => Nat.ne_of_lt h) mdG.rise
  have prs : ∀ (j : Nat) (b : Addr), adrs[j]? = some b → ∃ (e : Str × Str) (t u : Tok), ks[j]? = some e ∧ h'.get? b = some { cls := .type "tuple", data := .seq #[Value.str e.1 t, Value.str e.2 u] } := by
    intro j b atJ
    obtain ⟨en', hEn, gW⟩ := mdG.pairs j b atJ
    rw [← Array.getElem?_toList] at hEn
    obtain ⟨e, q1, ⟨t, q2⟩, ⟨u, q3⟩⟩ := paired_at ents hEn
    exact ⟨e, t, u, q1, by rw [gW, q2, q3]⟩
  have atL : (h'.push { cls := .type "list", data := .seq (adrs.map Value.ref).toArray }).get? h'.objs.size = some (seqObj "list" (adrs.map Value.ref).toArray 0) := Heap.get?_push_size _ rfl
  have kpS : ∀ b o, s.heap.get? b = some o → (h'.push { cls := .type "list", data := .seq (adrs.map Value.ref).toArray }).get? b = some o := fun b o e => Heap.get?_push_of_some _ (kpT b o e)
  have neL : ∀ b o, h'.get? b = some o → b ≠ h'.objs.size := fun b o e => Nat.ne_of_lt (Heap.lt_size e)
  generalize hh2 : h'.push { cls := .type "list", data := .seq (adrs.map Value.ref).toArray } = h2 at atL kpS ⊢
  have kpM : ∀ b o, h'.get? b = some o → h2.get? b = some o := fun b o e => by rw [← hh2]; exact Heap.get?_push_of_some _ e
  have pin : ∀ (j : Nat) (b : Addr) (e : Str × Str), adrs[j]? = some b → ks[j]? = some e → SrtT.IsTx h2 (.ref b) e.1 e.2 := by
    intro j b e atJ hEn
    obtain ⟨e', t, u, he', gW⟩ := prs j b atJ
    cases he'.symm.trans hEn
    exact ⟨b, _, t, u, 0, rfl, kpM _ _ gW, rfl, rfl⟩
  have allTx : ∀ v ∈ adrs.map Value.ref, SrtT.IsTx h2 v (SrtT.txOf h2 v).1 (SrtT.txOf h2 v).2 := by
    intro v hv'
    obtain ⟨b, hb, rfl⟩ := List.mem_map.mp hv'
    obtain ⟨j, atJ⟩ := List.mem_iff_getElem?.mp hb
    obtain ⟨e, t, u, hEn, _⟩ := prs j b atJ
    have := pin j b e atJ hEn
    rw [this.tx]
    exact this
  have mapTx : (adrs.map Value.ref).map (SrtT.txOf h2) = ks := by
    refine List.ext_getElem? fun j => ?_
    rw [List.getElem?_map, List.getElem?_map]
    cases atJ : adrs[j]? with
    | none =>
      have := List.getElem?_eq_none_iff.mp atJ
      rw [List.getElem?_eq_none (by omega)]
      rfl
    | some b =>
      obtain ⟨e, t, u, hEn, _⟩ := prs j b atJ
      rw [hEn]
      show some (SrtT.txOf h2 (.ref b)) = some e
      rw [(pin j b e atJ hEn).tx]
  refine wpAny_call_entry PyProof.Rows.slot_list_sort ⟨_, atL, rfl⟩ PyProof.Rows.entry_list_sort
    (SrtO.list_sort_ord (s := { s with heap := h2, toks := tkn }) (SrtT.swoT (SrtT.txOf h2)) atL (by rw [List.length_map, sizeLine_eq]; omega) (fun h2' => SrtT.tx_sortable (by omega) allTx fun o e => ?_) fun out o1 o2 => ⟨.none, rfl, ?_⟩) (PyProof.Rows.args_list_sort _)
  · have e : h2.get? h'.objs.size = some o := e
    rw [atL] at e
    cases e
    intro c
    exact absurd (Value.type.inj c) (by decide)
  · show EP X pn σ Q (.ref h'.objs.size) { s with heap := sortedHeap h2 h'.objs.size (adrs.map Value.ref) out.toArray, toks := tkn }
    have hrf : ∀ v ∈ out, v = .ref (adr v) := fun v inV => by
      obtain ⟨b, _, rfl⟩ := List.mem_map.mp (o2.perm.mem_iff.mp inV)
      rfl
    have kpF : ∀ b o, b ≠ h'.objs.size → h2.get? b = some o → (sortedHeap h2 h'.objs.size (adrs.map Value.ref) out.toArray).get? b = some o := fun b o hb e => (PyProof.Rows.sortedHeap_old hb (Heap.lt_size e)).trans e
    have kpAll : ∀ b o, s.heap.get? b = some o → (sortedHeap h2 h'.objs.size (adrs.map Value.ref) out.toArray).get? b = some o := fun b o e => kpF b o (neL _ _ (kpT b o e)) (kpS b o e)
    obtain ⟨sdF, atF⟩ := PyProof.Rows.sortedHeap_at (vs := adrs.map Value.ref) (out := out.toArray) atL
    have I1 : Inv X pn σ H { s with heap := sortedHeap h2 h'.objs.size (adrs.map Value.ref) out.toArray, toks := tkn } := I.kept (t' := tkn) kpAll
    have noL : H h'.objs.size = none := I.hok.fresh (Nat.le_of_lt ltN)
    have prm : ((out.map fun v => (adr v, SrtT.txOf h2 v)).map (·.2)).Perm ks := by
      have e := o2.perm.map (SrtT.txOf h2)
      rw [mapTx] at e
      rw [List.map_map]
      exact e
    have srtd0 : ((out.map fun v => (adr v, SrtT.txOf h2 v)).map (·.2)).Pairwise (fun e f => SrtT.lexT f e = false) := by
      rw [List.map_map, List.pairwise_map]
      exact o1
    have len0 : ((out.map fun v => (adr v, SrtT.txOf h2 v)).map fun z => V.ref z.1).length ≤ sizeLine := by
      have e := prm.length_eq
      rw [List.length_map] at e
      rw [List.length_map, sizeLine_eq]
      omega
    have rel : ∀ l : List Value, (∀ v ∈ l, v = .ref (adr v)) → Vals ((l.map fun v => (adr v, SrtT.txOf h2 v)).map fun z => V.ref z.1) l := by
      intro l
      induction l with
      | nil => intro _; exact .nil
      | cons v l ih =>
        intro inV
        refine .cons ?_ (ih fun u getU => inV u (List.mem_cons_of_mem _ getU))
        have := inV v (List.mem_cons_self ..)
        exact this
    have I2 : Inv X pn σ (upd H h'.objs.size (.lst ((out.map fun v => (adr v, SrtT.txOf h2 v)).map fun z => V.ref z.1))) { s with heap := sortedHeap h2 h'.objs.size (adrs.map Value.ref) out.toArray, toks := tkn } :=
      I1.take (h' := sortedHeap h2 h'.objs.size (adrs.map Value.ref) out.toArray) (t' := tkn) (fun b ob _ e => e) (I.fpOk (Nat.le_of_lt ltN) noL) ⟨len0, out, sdF, rel out hrf, atF⟩
    obtain ⟨H2, I3, g, tps⟩ := takeT (P := fun b vs => ∃ (j : Nat) (e : Str × Str), adrs[j]? = some b ∧ ks[j]? = some e ∧ vs = [.str e.1, .str e.2]) I adrs _ I2 nodupA fun b hb => by
      obtain ⟨j, atJ⟩ := List.mem_iff_getElem?.mp hb
      obtain ⟨e, t, u, hEn, gW⟩ := prs j b atJ
      have geB : s.heap.objs.size ≤ b := Nat.le_of_lt (mdG.above b hb)
      refine ⟨geB, ?_, [.str e.1, .str e.2], ⟨j, e, atJ, hEn, rfl⟩, fun H3 => ⟨(by rw [sizeLine_eq]; show 2 ≤ 16777216; omega), [Value.str e.1 t, Value.str e.2 u], .cons ⟨t, rfl⟩ (.cons ⟨u, rfl⟩ .nil), ⟨_, kpF _ _ (neL _ _ gW) (kpM _ _ gW), rfl, 0, rfl⟩⟩⟩
      rw [upd_ne (neL _ _ gW)]
      exact I.hok.fresh geB
    have grow : ∀ b o, H b = some o → H2 b = some o := fun b o e => g b o (by rw [upd_ne (ne_of_none e noL)]; exact e)
    refine ⟨.ref h'.objs.size, H2, I3, rfl, q H2 h'.objs.size _ grow prm srtd0 noL (g _ _ upd_same) fun z' hz' => ?_⟩
    obtain ⟨v, inV, rfl⟩ := List.mem_map.mp hz'
    obtain ⟨b, hb, e⟩ := List.mem_map.mp (o2.perm.mem_iff.mp inV)
    subst e
    obtain ⟨vs', ⟨j, e, j1, j2, ev⟩, hH⟩ := tps b hb
    show H2 b = some (.tup [.str (SrtT.txOf h2 (.ref b)).1, .str (SrtT.txOf h2 (.ref b)).2])
    rw [(pin j b e j1 j2).tx, hH, ev]
end
end Say
namespace Say
open PySem PySem.Spec PyProof.Rows L2
/-! ### the exceptions of a dict -/
def ent (e : Exc) : Key × V := (Sum.inr (T e.1), V.str (T e.2))
def putE (es : List Exc) (wd so : List Nat) : List Exc := if (es.any fun e => decide (e.1 = wd)) = true then es.map (fun e => if e.1 = wd then (e.1, so) else e) else es ++ [(wd, so)]
theorem key_eq {a b : List Nat} : ((Sum.inr (T a) : Key) = Sum.inr (T b)) ↔ a = b := ⟨fun h => T_inj (Sum.inr.inj h), fun h => by rw [h]⟩
theorem any_ent (wd : List Nat) : ∀ es : List Exc, ((es.map ent).any fun kv => decide (kv.1 = (Sum.inr (T wd) : Key))) = es.any fun e => decide (e.1 = wd)
  | [] => rfl
  | e :: r => by
    rw [List.map_cons, List.any_cons, List.any_cons, any_ent wd r]
    congr 1
    exact decide_eq_decide.mpr key_eq
theorem put_ent (es : List Exc) (wd so : List Nat) : putK (es.map ent) (Sum.inr (T wd) : Key) (V.str (T so)) = (putE es wd so).map ent := by
  unfold putK putE
  rw [any_ent]
  by_cases c : (es.any fun e => decide (e.1 = wd)) = true
  · rw [if_pos c, if_pos c, List.map_map, List.map_map]
    refine List.map_congr_left fun e _ => ?_
    show (if (ent e).1 = (Sum.inr (T wd) : Key) then ((ent e).1, V.str (T so)) else ent e) = ent (if e.1 = wd then (e.1, so) else e)
    by_cases h : e.1 = wd
    · rw [if_pos h, if_pos (show (ent e).1 = (Sum.inr (T wd) : Key) from key_eq.mpr h)]
      rfl
    · rw [if_neg h, if_neg (show ¬ (ent e).1 = (Sum.inr (T wd) : Key) from fun z => h (key_eq.mp z))]
  · rw [if_neg c, if_neg c, List.map_append]
    rfl
theorem putE_len (es : List Exc) (wd so : List Nat) : (putE es wd so).length ≤ es.length + 1 := by
  unfold putE
  split
  · rw [List.length_map]; omega
  · rw [List.length_append]; exact Nat.le_refl _
theorem putE_ok {L : List Nat} {es : List Exc} {wd so : List Nat} (h : ∀ e ∈ es, ExcOk L e) (h1 : ExcOk L (wd, so)) : ∀ e ∈ putE es wd so, ExcOk L e := by
  intro e he
  unfold putE at he
  split at he
  · obtain ⟨e', he', rfl⟩ := List.mem_map.mp he
    by_cases c : e'.1 = wd
    · rw [if_pos c, c]
      exact h1
    · rw [if_neg c]
      exact h e' he'
  · rcases List.mem_append.mp he with he | he
    · exact h e he
    · rw [List.mem_singleton.mp he]
      exact h1
theorem putE_nd {es : List Exc} {wd so : List Nat} (h : (es.map (·.1)).Nodup) : ((putE es wd so).map (·.1)).Nodup := by
  unfold putE
  split
  · rename_i c
    rw [List.map_map]
    have : es.map ((·.1) ∘ fun e : Exc => if e.1 = wd then (e.1, so) else e) = es.map (·.1) := List.map_congr_left fun e _ => by
      show (if e.1 = wd then (e.1, so) else e).1 = e.1
      split <;> rfl
    rw [this]
    exact h
  · rename_i c
    rw [List.map_append]
    refine List.nodup_append.mpr ⟨h, by simp, fun a ha b hb => ?_⟩
    intro z
    refine c (List.any_eq_true.mpr ?_)
    obtain ⟨e, he, rfl⟩ := List.mem_map.mp ha
    have hb : b = wd := by simpa using hb
    exact ⟨e, he, decide_eq_true (by rw [← hb]; exact z)⟩
/-- by its word there is one exception at most -/
theorem one_of {es : List Exc} (h : (es.map (·.1)).Nodup) {e f : Exc} (he : e ∈ es) (hf : f ∈ es) (hw : e.1 = f.1) : e = f := by
  obtain ⟨i, hi⟩ := List.mem_iff_getElem?.mp he
  obtain ⟨j, hj⟩ := List.mem_iff_getElem?.mp hf
  have e1 : (es.map (·.1))[i]? = some e.1 := by rw [List.getElem?_map, hi]; rfl
  have e2 : (es.map (·.1))[j]? = some e.1 := by rw [List.getElem?_map, hj, hw]; rfl
  have := nd_ix h e1 e2
  subst this
  exact Option.some.inj (hi.symm.trans hj)
theorem valV_ent {es : List Exc} (h : (es.map (·.1)).Nodup) {e : Exc} (he : e ∈ es) : valV (es.map ent) (Sum.inr (T e.1) : Key) = some (V.str (T e.2)) := by
  unfold valV
  cases hf : (es.map ent).find? fun kv => decide (kv.1 = (Sum.inr (T e.1) : Key)) with
  | none =>
    have := List.find?_eq_none.mp hf (ent e) (List.mem_map.mpr ⟨e, he, rfl⟩)
    exact absurd (decide_eq_true rfl) this
  | some kv =>
    have h1 := List.find?_some hf
    obtain ⟨f, hfm, rfl⟩ := List.mem_map.mp (List.mem_of_find?_eq_some hf)
    have h2 : f.1 = e.1 := key_eq.mp (of_decide_eq_true h1)
    rw [one_of h hfm he h2]
    rfl
theorem find_ent {es : List Exc} (h : (es.map (·.1)).Nodup) {e : Exc} (he : e ∈ es) : es.find? (fun f => decide (f.1 = e.1)) = some e := by
  cases hf : es.find? fun f => decide (f.1 = e.1) with
  | none => exact absurd (decide_eq_true rfl) (List.find?_eq_none.mp hf e he)
  | some f => rw [one_of h (List.mem_of_find?_eq_some hf) he (of_decide_eq_true (List.find?_some (p := fun f : Exc => decide (f.1 = e.1)) hf))]
/-! ### sorted -/
theorem uniq_sorted {α : Type} {r : α → α → Prop} (as : ∀ a b, r a b → ¬ r b a) : ∀ {l m : List α}, l.Perm m → l.Pairwise r → m.Pairwise r → l = m
  | [], m, p, _, _ => (List.Perm.eq_nil p.symm).symm
  | a :: l, [], p, _, _ => absurd p.length_eq (by simp)
  | a :: l, b :: m, p, h1, h2 => by
    have ha := p.mem_iff.mp (List.mem_cons_self (a := a) (l := l))
    have hb := p.mem_iff.mpr (List.mem_cons_self (a := b) (l := m))
    have e : a = b := by
      rcases List.mem_cons.mp ha with e | ha
      · exact e
      · rcases List.mem_cons.mp hb with e | hb
        · exact e.symm
        · exact absurd ((List.pairwise_cons.mp h1).1 b hb) (as _ _ ((List.pairwise_cons.mp h2).1 a ha))
    subst e
    rw [uniq_sorted as p.cons_inv (List.pairwise_cons.mp h1).2 (List.pairwise_cons.mp h2).2]
theorem lt_asym (a b : List Nat) (h : a < b) : ¬ b < a := List.lt_asymm h
theorem le_of_ltCps {a b : List Nat} (h : ltCps b a = false) : a ≤ b := by
  rw [ltCps_eq] at h
  exact List.not_lt.mp (of_decide_eq_false h)
theorem rising_pw : ∀ (l : List Str) (p : Str), risingS p l = true → (p :: l).Pairwise fun a b => a.cps.toList ≤ b.cps.toList
  | [], p, _ => List.pairwise_singleton _ _
  | x :: r, p, h => by
    have h : (!ltCps x.cps.toList p.cps.toList && risingS x r) = true := h
    rw [Bool.and_eq_true] at h
    have ih := rising_pw r x h.2
    have px : p.cps.toList ≤ x.cps.toList := le_of_ltCps (by simpa using h.1)
    refine List.pairwise_cons.mpr ⟨fun y hy => ?_, ih⟩
    rcases List.mem_cons.mp hy with rfl | hy
    · exact px
    · exact List.le_trans px ((List.pairwise_cons.mp ih).1 y hy)
theorem sortedS_pw : ∀ {l : List Str}, sortedS l = true → l.Pairwise fun a b => a.cps.toList ≤ b.cps.toList
  | [], _ => .nil
  | x :: r, h => rising_pw r x h
def wordsS (es : List Exc) : List Str := es.map fun e => T e.1
theorem strict_words {es : List Exc} (up : es.Pairwise fun e f => e.1 < f.1) : (wordsS es).Pairwise fun a b => a.cps.toList < b.cps.toList := by
  unfold wordsS
  rw [List.pairwise_map]
  exact up
theorem strict_of {l : List Str} (h : l.Pairwise fun a b => a.cps.toList ≤ b.cps.toList) (nd : l.Nodup) : l.Pairwise fun a b => a.cps.toList < b.cps.toList := by
  refine List.Pairwise.imp_of_mem (fun {a b} _ _ h => ?_) (List.Pairwise.and h nd)
  obtain ⟨h1, h2⟩ := h
  refine Decidable.byContradiction fun n => h2 (TL.ext_tl (List.le_antisymm h1 (List.not_lt.mp n)))
theorem nd_strict {l : List Str} (h : l.Pairwise fun a b => a.cps.toList < b.cps.toList) : l.Nodup := by
  refine List.Pairwise.imp (fun {a b} h => ?_) h
  intro z
  rw [z] at h
  exact List.lt_irrefl _ h
theorem sorted_keys {es es' : List Exc} {ys : List Str} (hp : es'.Perm es) (up : es'.Pairwise fun e f => e.1 < f.1) (hy : ys.Perm (wordsS es)) (hs : sortedS ys = true) : ys = wordsS es' := by
  have s' := strict_words up
  have p2 : ys.Perm (wordsS es') := hy.trans (hp.symm.map fun e : Exc => T e.1)
  exact uniq_sorted (r := fun a b : Str => a.cps.toList < b.cps.toList) (fun a b h => lt_asym _ _ h) p2 (strict_of (sortedS_pw hs) (p2.nodup_iff.mpr (nd_strict s'))) s'
def tt (e : Exc) : Str × Str := (T e.1, T e.2)
def bk (z : Str × Str) : Exc := (z.1.cps.toList, z.2.cps.toList)
theorem tt_bk (z : Str × Str) : tt (bk z) = z := by
  show (T z.1.cps.toList, T z.2.cps.toList) = z
  rw [T_list, T_list]
theorem bk_tt (e : Exc) : bk (tt e) = e := rfl
theorem sort_exc {es : List Exc} (nd : (es.map (·.1)).Nodup) {qs : List (Str × Str)} (hp : qs.Perm (es.map tt)) (hs : qs.Pairwise fun e f => SrtT.lexT f e = false) :
    qs = (qs.map bk).map tt ∧ (qs.map bk).Perm es ∧ (qs.map bk).Pairwise fun e f => e.1 < f.1 := by
  have e1 : qs = (qs.map bk).map tt := by
    rw [List.map_map]
    conv => lhs; rw [← List.map_id qs]
    exact List.map_congr_left fun z _ => (tt_bk z).symm
  have e2 : (qs.map bk).Perm es := by
    have := hp.map bk
    rw [List.map_map] at this
    have e3 : es.map (bk ∘ tt) = es := by
      conv => rhs; rw [← List.map_id es]
      exact List.map_congr_left fun e _ => rfl
    rwa [e3] at this
  refine ⟨e1, e2, ?_⟩
  have nd2 : ((qs.map bk).map (·.1)).Nodup := (e2.map (·.1)).nodup_iff.mpr nd
  rw [List.pairwise_map]
  have nd3 : qs.Pairwise fun a b => ¬ (bk a).1 = (bk b).1 := by
    have : ((qs.map bk).map (·.1)).Pairwise (· ≠ ·) := nd2
    rw [List.pairwise_map, List.pairwise_map] at this
    exact this
  refine List.Pairwise.imp_of_mem (fun {a b} _ _ h => ?_) (List.Pairwise.and hs nd3)
  obtain ⟨h1, h2⟩ := h
  rcases SrtT.lexT_no.mp h1 with q | ⟨q, _⟩
  · exact q
  · exact absurd (congrArg (fun z : Str => z.cps.toList) q.symm) h2
end Say
namespace Say
open PySem PySem.Spec PyProof.Rows L2
/-- what the law's own saying hands back -/
def saidV (rs : List Rule) (es : List Exc) (wd : List Nat) : List V := match saidM rs es wd with
  | some s => [.str (T []), .str (T s)]
  | none => [.str (Str.ofString "unsaid"), optI (W rs wd).2]
/-- what is said are capitals, three a letter at the most -/
theorem say_caps {L : List Nat} {rs : List Rule} (ho : ∀ ρ ∈ rs, RuleOk L ρ) (hL : LetOk L) {wd so : List Nat} (h : sayW rs wd = some so) : (∀ c ∈ so, 65 ≤ c ∧ c ≤ 90) ∧ so.length ≤ 3 * (wd.length + 1) := by
  unfold sayW at h
  by_cases e : (W rs wd).2 = none
  · rw [if_pos e] at h
    have h := (Option.some.inj h).symm
    subst h
    have hl : (W rs wd).1.length ≤ wd.length + 1 := wk_len rs (sgn wd) (wd.length + 1) 1
    have hk : ∀ k ∈ (W rs wd).1.map (fun s : Nat × Nat => s.2), k < rs.length := fun k hk => by
      obtain ⟨st, hst, rfl⟩ := List.mem_map.mp hk
      exact wk_lt _ _ st hst
    have h3 := flat_len (fun ρ hρ => (ho ρ hρ).rl hL) _ hk
    rw [List.length_map] at h3
    refine ⟨fun c hc => ?_, by omega⟩
    obtain ⟨l, hl, hcl⟩ := List.mem_flatten.mp hc
    obtain ⟨k, hkm, rfl⟩ := List.mem_map.mp hl
    have hkl := hk k hkm
    rw [ruleAt_eq (List.getElem?_eq_getElem hkl)] at hcl
    exact (ho _ (List.getElem_mem hkl)).so c hcl
  · rw [if_neg e] at h
    cases h
theorem said_stuck' {rs : List Rule} {es : List Exc} {wd : List Nat} (h : saidM rs es wd = none) : ∃ p, (W rs wd).2 = some p := by
  cases hq : (W rs wd).2 with
  | some p => exact ⟨p, rfl⟩
  | none =>
    unfold saidM at h
    cases hf : es.find? fun e => decide (e.1 = wd) with
    | some e => rw [hf] at h; cases h
    | none =>
      rw [hf] at h
      have h : sayW rs wd = none := h
      unfold sayW at h
      rw [if_pos hq] at h
      cases h
end Say
namespace Say
open PySem PySem.Spec PyProof.Rows L2
section
variable {P : Program} {w : World} {K : PySem.W.Frag} {mg : Str → Option Value} {base : Heap}
abbrev sLS : Stmt := topS 52
theorem scLS : FnScope ["_law_book", "_law_word", "_law_other", "_law_sounds", "_law_found", "_law_place", "_law_number"] ["_law_book", "_law_word"] (defScope sLS) := ⟨rfl, rfl, rfl, by decide +kernel, rfl, by decide +kernel, by decide +kernel⟩
def spLS : Sp := fun vs H Q _ => ∃ (b : Addr) (L : List Nat) (rs : List Rule) (es : List Exc) (wd : List Nat), vs = [.ref b, .str (T wd)] ∧ BookAt H b L rs es ∧ (∀ ρ ∈ rs, RlOk ρ) ∧ rs.length ≤ 500 ∧ wd.length ≤ 4000000 ∧
  ∀ (t : Addr) (H' : Hp), Same H H' → H' t = some (.tup (saidV rs es wd)) → Q (.ref t) H'
theorem ok_LS {f : Addr} {fd : FuncData} (F : Fun K "_law_said" "_law_said" sLS f fd) (DW : Df P w K mg base "_law_walk" ["_law_rules_here", "_law_word"] 2 spLW) : FnOk P w K mg base CX0 3 f fd ["_law_book", "_law_word"] spLS := by
  obtain ⟨fW, fdW, GW, kW, bW, mW⟩ := DW
  refine F.ok scLS (fun vs H Q E h => ?_) (fun cdv A outer s H vs Q E hr h => ?_)
  · obtain ⟨b, L, rs, es, wd, rfl, _⟩ := h
    rfl
  · obtain ⟨b, L, rs, es, wd, rfl, ⟨R, X, hb, hR, hX⟩, ho, hrs, hw, q⟩ := h
    refine ⟨_, pss_cons (ps_for PassesOwn.never rfl (pi_tup (pe_ix ix_tup (pv 0) pe_int (fun _ _ => rfl))) (pg_tup (by rfl) (pgs_cons (pg_name (i := 2) scLS.nd rfl (.inl rfl)) (pgs_cons (pg_name (i := 3) scLS.nd rfl (.inl rfl)) pgs_nil)))
        (pss_one (ps_if (pt_cmpR op_eq (pv 2) (pv 1) (nomark _)) (pss_one (ps_ret (pe_tup (pa_cons pe_str (pa_cons (pv 3) pa_nil))))) pss_nil)))
      (pss_cons (ps_set (i := 4) scLS.nd rfl (.inl rfl) (pe_call GW hr (by rfl) mW kW bW .nil pass0 (pa_cons (pe_ix ix_tup (pv 0) pe_int (fun _ _ => rfl)) (pa_cons (pv 1) pa_nil))))
      (pss_cons (ps_if (pt_cmpR op_ne (pe_ix ix_tup (pv 4) pe_int (fun _ _ => rfl)) pe_str (nomark _)) (pss_one (ps_ret (pv 4))) pss_nil)
      (pss_one (ps_ret (pe_tup (pa_cons pe_str (pa_cons (pe_join pe_str (pe_lc (own := [("_law_place", 5), ("_law_number", 6)]) (g := gTup K 2 (gCons (gName 5) (gCons (gName 6) gNil))) (te := tOp (rIxT K) (tOp (rIxT K) (tOp (rIxT K) (tVar 0) (tC (.int 1))) (tVar 6)) (tC (.int 3))) rfl scLS.nd
        (pi_list (pe_ix ix_tup (pv 4) pe_int (fun _ _ => rfl)))
        (blkOk_by (N := ["_law_book", "_law_word", "_law_other", "_law_sounds", "_law_found", "_law_place", "_law_number"]) (sc := defScope sLS) (by decide +kernel)) (fun _ _ _ _ _ => pg_tup (by rfl) (pgs_cons (pg_name (i := 5) scLS.nd rfl (.inl rfl)) (pgs_cons (pg_name (i := 6) scLS.nd rfl (.inl rfl)) pgs_nil)))
        (fun _ _ _ _ _ => pts_nil) (fun _ _ _ _ _ => pe_ix ix_tup (pe_ix ix_tup (pe_ix ix_tup (pv 0) pe_int (fun _ _ => rfl)) (pv 6) (fun _ _ => rfl)) pe_int (fun _ _ => rfl)))) pa_nil))))))), ?_⟩
    obtain ⟨ts, hXl, hXp⟩ := id hX
    refine ⟨_, rfl, b, _, 2, .ref X, rfl, rfl, .inl (.inl hb), atI_nat (j := 2) rfl, X, rfl, ⟨_, .inl hXl.rd⟩, for_it (walk_tup (xs := ts.map V.ref)) (fun i σ H3 => Same H H3 ∧ (∃ v2 v3, σ = [some (.ref b), some (.str (T wd)), v2, v3, none, none, none]) ∧ ∀ j e, j < i → es[j]? = some e → ¬ e.1 = wd)
      ⟨Same.refl _, ⟨_, _, rfl⟩, fun j e h => absurd h (Nat.not_lt_zero j)⟩ (fun i σ H3 _ h => .inl (hXl.kt (.of h.1)).rd) ?_ ?_⟩
    · rintro i x σ H3 H4 hi ⟨s3, ⟨v2, v3, rfl⟩, hn⟩ ⟨rfl, hx⟩
      rw [List.getElem?_map] at hx
      obtain ⟨a, ha, e⟩ := Option.map_eq_some_iff.mp hx
      subst e
      obtain ⟨e, he, hat⟩ := paired_at hXp ha
      have hat' := s3 _ _ hat
      refine ⟨a, _, rfl, .inl (.inl hat'), rfl, _, _, rfl, _, _, rfl, rfl, ?_⟩
      refine ⟨_, rfl, _, rfl, rfl, _, rfl, ?_⟩
      rw [eqT]
      refine ite2 (fun c => ?_) (fun c => ?_)
      · have c := of_decide_eq_true c
        have ef : es.find? (fun e => decide (e.1 = wd)) = some e := by
          refine List.find?_eq_some_iff_getElem.mpr ⟨decide_eq_true c, i, (List.getElem?_eq_some_iff.mp he).1, (List.getElem?_eq_some_iff.mp he).2, fun j hj => ?_⟩
          have := hn j _ hj (List.getElem?_eq_getElem (by have := (List.getElem?_eq_some_iff.mp he).1; omega))
          simp only [this, decide_false, Bool.not_false]
        refine ⟨_, rfl, (by show 2 ≤ sizeLine; decide), fun t ht => q t _ (s3.trans (same_new ht _)) ?_⟩
        unfold saidV saidM
        rw [ef, upd_same, show Str.ofString "" = T [] from nil_eq]
      · have c := of_decide_eq_false (Bool.eq_false_iff.mpr c)
        refine ⟨s3, ⟨_, _, rfl⟩, fun j e' hj he' => ?_⟩
        by_cases ej : j = i
        · subst ej
          rw [he] at he'
          cases he'
          exact c
        · exact hn j e' (by omega) he'
    · rintro σ H3 ⟨s3, ⟨v2, v3, rfl⟩, hn⟩
      have ef : es.find? (fun e => decide (e.1 = wd)) = none := by
        refine List.find?_eq_none.mpr fun e he => ?_
        obtain ⟨j, hj⟩ := List.mem_iff_getElem?.mp he
        have := hn j e (by rw [List.length_map, paired_len hXp]; exact (List.getElem?_eq_some_iff.mp hj).1) hj
        simpa using this
      have eM : saidM rs es wd = sayW rs wd := by
        unfold saidM
        rw [ef]
      refine ⟨_, rfl, b, _, 1, .ref R, rfl, rfl, .inl (.inl (s3 _ _ hb)), atI_nat (j := 1) rfl, _, rfl, R, rs, wd, rfl, hR.kt (.of s3), ho, hw, hrs, fun t H4 s4 ht => ?_⟩
      unfold LWAt at ht
      unfold saidV at q
      rw [eM] at q
      unfold sayW at q
      cases eW : (W rs wd).2 with
      | some p =>
        rw [eW] at ht q
        rw [if_neg (fun z => by cases z)] at q
        have ht : H4 t = some (.tup [.str (Str.ofString "unsaid"), .int (p : Nat)]) := ht
        refine ⟨_, rfl, t, _, 0, .str (Str.ofString "unsaid"), rfl, rfl, .inl (.inl ht), atI_nat (j := 0) rfl, rfl, _, rfl, ?_⟩
        rw [show decide (V.str (Str.ofString "unsaid") = V.str (Str.ofString "")) = false from by decide +kernel]
        refine iteT ?_
        exact ⟨_, rfl, q t H4 (s3.trans s4) ht⟩
      | none =>
        rw [eW] at ht q
        rw [if_pos rfl] at q
        obtain ⟨D, ht, hS⟩ := ht
        obtain ⟨sts, hDl, hDp⟩ := id hS
        refine ⟨_, rfl, t, _, 0, .str (T []), rfl, rfl, .inl (.inl ht), atI_nat (j := 0) rfl, rfl, _, rfl, ?_⟩
        rw [dec_nil, decide_eq_true rfl]
        refine iteF ?_
        have hlw : (W rs wd).1.length ≤ wd.length + 1 := wk_len rs (sgn wd) (wd.length + 1) 1
        have s34 := s3.trans s4
        obtain ⟨rts, hRt, hRp⟩ := hR.kt (.of s34)
        refine ⟨⟨_, rfl⟩, _, rfl, t, _, 1, .ref D, rfl, rfl, .inl (.inl ht), atI_nat (j := 1) rfl, D, rfl, ⟨_, .inl (.inl hDl)⟩, fun D' hD' => ?_⟩
        refine lc_it (walk_list (xs := sts.map V.ref)) (fun i H2 => H2 D' = some (.lst ((((((W rs wd).1.take i).map fun s : Nat × Nat => s.2).map fun k => (ruleAt rs k).so).map T).map V.str)) ∧ Same H4 H2) ?_ (fun i H2 _ h => .inl (.inl (h.2 _ _ hDl))) ?_ ?_
        · exact ⟨upd_same, same_new hD' _⟩
        · rintro i x H2 H2' hi ⟨e1, e2⟩ ⟨rfl, hx⟩
          rw [List.getElem?_map] at hx
          obtain ⟨a, ha, e⟩ := Option.map_eq_some_iff.mp hx
          subst e
          obtain ⟨st, hst, hat⟩ := paired_at hDp ha
          have hjl : st.2 < rs.length := wk_lt _ _ st (List.mem_of_getElem? hst)
          have hi2 : i < (W rs wd).1.length := (List.getElem?_eq_some_iff.mp hst).1
          obtain ⟨ra, hra, hrat⟩ := paired_at' hRp (List.getElem?_eq_getElem hjl)
          have er : ruleAt rs st.2 = rs[st.2] := ruleAt_eq (List.getElem?_eq_getElem hjl)
          refine ⟨a, _, rfl, .inl (.inl (e2 _ _ hat)), rfl, _, _, rfl, _, _, rfl, rfl, ?_⟩
          refine ⟨rfl, ?_⟩
          refine ⟨_, rfl, b, _, 1, .ref R, rfl, rfl, .inl (.inl (e2 _ _ (s34 _ _ hb))), atI_nat (j := 1) rfl, _, rfl, R, _, (st.2 : Int), .ref ra, rfl, rfl, .inl (.inl (e2 _ _ hRt)), atI_nat (by rw [List.getElem?_map, hra]; rfl), ra, _, 3, .str (T rs[st.2].so), rfl, rfl, .inl (.inl (e2 _ _ hrat)), atI_nat (j := 3) rfl, _, e1, ?_, ?_, ?_⟩
          · rw [List.length_map, List.length_map, List.length_map, List.length_map, List.length_take]
            exact smallM (by omega)
          · rw [upd_same, List.take_add_one, hst]
            simp only [Option.toList_some, List.map_append, List.map_cons, List.map_nil, er]
          · exact fun b u q => by
              rw [upd_ne (ne_of_none q hD')]
              exact e2 b u q
        · rintro H2 ⟨e1, e2⟩
          rw [List.length_map, paired_len hDp, List.take_length] at e1
          refine ⟨Str.ofString "", D', (((W rs wd).1.map fun s : Nat × Nat => s.2).map fun k => (ruleAt rs k).so).map T, rfl, rfl, .inl (.inl (.inl e1)), ?_, ?_⟩
          · rw [sum_T]
            have := flat_len ho ((W rs wd).1.map fun s : Nat × Nat => s.2) fun k hk => by
              obtain ⟨st, hst, rfl⟩ := List.mem_map.mp hk
              exact wk_lt _ _ st hst
            rw [List.length_map] at this
            show (soL rs _).length + _ * 0 ≤ _
            omega
          · rw [show Str.ofString "" = T [] from nil_eq, join_nil]
            refine ⟨(by show 2 ≤ sizeLine; decide), fun u hu => q u _ (s34.trans (e2.trans (same_new hu _))) ?_⟩
            rw [upd_same]
            rfl
end
end Say
namespace Say
open PySem PySem.Spec PyProof.Rows L2
section
variable {P : Program} {w : World} {K : PySem.W.Frag} {mg : Str → Option Value} {base : Heap}
abbrev sTaken : Stmt := topS 44
theorem scTaken : FnScope ["_law_row_here", "_law_many", "_law_found", "_law_cell"] ["_law_row_here", "_law_many"] (defScope sTaken) := ⟨rfl, rfl, rfl, by decide +kernel, rfl, by decide +kernel, by decide +kernel⟩
theorem fmod_in {x n : Int} (h : 0 < n) : 0 ≤ x.fmod n ∧ x.fmod n < n := ⟨Int.fmod_nonneg_of_pos _ h, Int.fmod_lt_of_pos _ h⟩
theorem ok_taken {f : Addr} {fd : FuncData} {k : Nat} (F : Fun K "_law_taken" "_law_taken" sTaken f fd) (ml : mg "len" = none) : FnOk P w K mg base CX0 (k + 1) f fd ["_law_row_here", "_law_many"] (spTaken K) := by
  refine F.ok scTaken (fun vs H Q E h => ?_) (fun cdv A outer s H vs Q E hr h => ?_)
  · obtain ⟨r, a, ns, n, rfl, _⟩ := h
    rfl
  · obtain ⟨r, a, ns, n, rfl, R, h0, h1, q⟩ := h
    obtain ⟨⟨i, c, m, hR, hi, hm0, hm1⟩, hS, hle⟩ := id R
    refine ⟨_, pss_cons (ps_if (pt_cmpR op_gt (pe_ix ix_list (pv 0) pe_int (fun _ _ => rfl)) pe_int (nomark _))
        (pss_cons (ps_set (i := 2) scTaken.nd rfl (.inl rfl) (pe_op op_modN (pe_ix ix_list (pv 0) pe_int (fun _ _ => rfl)) (pv 1)))
        (pss_cons (ps_asg (pe_op op_fdivN (pe_ix ix_list (pv 0) pe_int (fun _ _ => rfl)) (pv 1)) (pg_sub (pv 0) pe_int set_list))
        (pss_one (ps_ret (pv 2))))) pss_nil)
      (pss_cons (ps_if (pt_cmpR op_lt (pe_ix ix_list (pv 0) pe_int (fun _ _ => rfl)) (pe_callB call_len_seq (by rfl) ml PySem.boot_len (pa_cons (pe_ix ix_list (pv 0) pe_int (fun _ _ => rfl)) pa_nil)) (nomark _))
        (pss_cons (ps_set (i := 3) scTaken.nd rfl (.inl rfl) (pe_ix ix_list (pe_ix ix_list (pv 0) pe_int (fun _ _ => rfl)) (pe_ix ix_list (pv 0) pe_int (fun _ _ => rfl)) (fun _ _ => rfl)))
        (pss_cons (ps_asg (pe_op op_add (pe_ix ix_list (pv 0) pe_int (fun _ _ => rfl)) pe_int) (pg_sub (pv 0) pe_int set_list))
        (pss_cons (ps_if (pt_cmpR op_ge (pv 3) (pe_op op_pow pe_int pe_int) (nomark _))
          (pss_one (ps_asg (pe_op op_fdivN (pv 3) (pv 1)) (pg_sub (pv 0) pe_int set_list))) pss_nil)
        (pss_one (ps_ret (pe_op op_modN (pv 3) (pv 1))))))) pss_nil)
      (pss_cons (ps_asg (pe_op op_modN (pe_op op_add (pe_op op_mul (pe_ix ix_list (pv 0) pe_int (fun _ _ => rfl)) pe_int) pe_int) pe_int) (pg_sub (pv 0) pe_int set_list))
      (pss_one (ps_ret (pe_op op_modN (pe_op op_fdivN (pe_ix ix_list (pv 0) pe_int (fun _ _ => rfl)) pe_int) (pv 1)))))), ?_⟩
    have hL : SqL K H r [.ref a, .int i, .int c, .int m] := .inl (.inl hR)
    have gn : n ≠ 0 ∧ n.natAbs < 1073741824 := ⟨by omega, by omega⟩
    -- row[2] > 0
    refine ⟨_, rfl, r, _, 2, .int c, rfl, rfl, hL, atI_nat (j := 2) rfl, _, _, rfl, rfl, _, rfl, ite2 (fun e => ?_) (fun e => ?_)⟩
    · refine ⟨_, rfl, r, _, 2, .int c, rfl, rfl, hL, atI_nat (j := 2) rfl, _, rfl, _, _, rfl, rfl, gn.1, ?_⟩
      refine ⟨_, rfl, r, _, 2, .int c, rfl, rfl, hL, atI_nat (j := 2) rfl, _, rfl, _, _, rfl, rfl, gn, ?_⟩
      refine ⟨_, rfl, r, _, 2, 2, rfl, rfl, hR, rfl, ?_⟩
      refine ⟨_, rfl, ?_⟩
      exact q _ _ (fmod_in h0).1 (fmod_in h0).2 (stp_at _) (R.put hi hm0 hm1)
    -- row[1] < len(row[0])
    refine ⟨_, rfl, r, _, 1, .int i, rfl, rfl, hL, atI_nat (j := 1) rfl, _, rfl, r, _, 0, .ref a, rfl, rfl, hL, atI_nat (j := 0) rfl, a, _, rfl, .inl hS, _, _, rfl, rfl, _, rfl, ite2 (fun e1 => ?_) (fun e1 => ?_)⟩
    · have e2 : i < ((ns.map V.int).length : Int) := of_decide_eq_true e1
      rw [List.length_map] at e2
      have hj : i.toNat < ns.length := by omega
      have gx : (ns.map V.int)[i.toNat]? = some (.int ns[i.toNat]) := by
        rw [List.getElem?_map, List.getElem?_eq_getElem hj]
        rfl
      refine ⟨_, rfl, r, _, 0, .ref a, rfl, rfl, hL, atI_nat (j := 0) rfl, _, rfl, r, _, 1, .int i, rfl, rfl, hL, atI_nat (j := 1) rfl, a, _, i, .int ns[i.toNat], rfl, rfl, hS, at_of (j := i.toNat) (by omega) gx, ?_⟩
      refine ⟨_, rfl, r, _, 1, .int i, rfl, rfl, hL, atI_nat (j := 1) rfl, _, _, rfl, rfl, ?_⟩
      refine ⟨_, rfl, r, _, 1, 1, rfl, rfl, hR, rfl, ?_⟩
      have R1 : RowAt K (upd H r (.lst [.ref a, .int (i + 1), .int c, .int m])) r a ns := R.put (by omega) hm0 hm1
      refine ⟨_, rfl, _, _, rfl, rfl, ⟨by decide, by decide, by decide⟩, _, _, rfl, rfl, _, rfl, ite2 (fun e3 => ?_) (fun e3 => ?_)⟩
      · refine ⟨_, rfl, _, rfl, _, _, rfl, rfl, gn, ?_⟩
        refine ⟨_, rfl, r, _, 2, 2, rfl, rfl, upd_same, rfl, ?_⟩
        refine ⟨_, rfl, _, rfl, _, _, rfl, rfl, gn.1, ?_⟩
        exact q _ _ (fmod_in h0).1 (fmod_in h0).2 ((stp_at _).trans (stp_at _)) (R1.put (by omega) hm0 hm1)
      · refine ⟨_, rfl, _, rfl, _, _, rfl, rfl, gn.1, ?_⟩
        exact q _ _ (fmod_in h0).1 (fmod_in h0).2 (stp_at _) R1
    · refine ⟨_, rfl, r, _, 3, .int m, rfl, rfl, hL, atI_nat (j := 3) rfl, _, _, rfl, rfl, .inl ⟨by omega, by omega⟩, _, _, rfl, rfl, _, _, rfl, rfl, (by show (2147483647 : Int) ≠ 0; decide), ?_⟩
      refine ⟨_, rfl, r, _, 3, 3, rfl, rfl, hR, rfl, ?_⟩
      have b := fmod_in (x := m * 48271 + 12345) (n := 2147483647) (by decide)
      have R1 : RowAt K (upd H r (.lst [.ref a, .int i, .int c, .int ((m * 48271 + 12345).fmod 2147483647)])) r a ns := R.put hi b.1 b.2
      refine ⟨_, rfl, r, _, 3, .int ((m * 48271 + 12345).fmod 2147483647), rfl, rfl, .inl (.inl upd_same), atI_nat (j := 3) rfl, _, _, rfl, rfl, ⟨by decide, by decide⟩, _, rfl, _, _, rfl, rfl, gn.1, ?_⟩
      exact q _ _ (fmod_in h0).1 (fmod_in h0).2 (stp_at _) R1
end
end Say
namespace Say
open PySem PySem.Spec PyProof.Rows L2
def lets : List (List Nat) := [[97, 98], [97, 98, 99], [97, 99], [97, 98, 99, 100]]
section
variable {P : Program} {w : World} {K : PySem.W.Frag} {mg : Str → Option Value} {base : Heap}
abbrev sSide : Stmt := topS 46
theorem scSide : FnScope ["_law_row_here", "_law_letters_here", "_law_sign"] ["_law_row_here", "_law_letters_here"] (defScope sSide) := ⟨rfl, rfl, rfl, by decide +kernel, rfl, by decide +kernel, by decide +kernel⟩
def spSide (K : PySem.W.Frag) : Sp := fun vs H Q _ => ∃ (r a : Addr) (ns : List Int) (L : List Nat), vs = [.ref r, .str (T L)] ∧ RowAt K H r a ns ∧ L.length ≤ 4 ∧
  ∀ (z : List Nat) (H' : Hp), z.Sublist (35 :: L) → Stp r H H' → RowAt K H' r a ns → Q (.str (T z)) H'
theorem ok_side {f : Addr} {fd : FuncData} (F : Fun K "_law_side" "_law_side" sSide f fd) (DT : Df P w K mg base "_law_taken" ["_law_row_here", "_law_many"] 1 (spTaken K)) :
    FnOk P w K mg base CX0 2 f fd ["_law_row_here", "_law_letters_here"] (spSide K) := by
  obtain ⟨fT, fdT, GT, kT, bT, mT⟩ := DT
  refine F.ok scSide (fun vs H Q E h => ?_) (fun cdv A outer s H vs Q E hr h => ?_)
  · obtain ⟨r, a, ns, L, rfl, _⟩ := h
    rfl
  · obtain ⟨r, a, ns, L, rfl, R, hl, q⟩ := h
    refine ⟨_, pss_cons (ps_if (pt_cmpR op_eq (pe_call GT hr (by rfl) mT kT bT .nil pass0 (pa_cons (pv 0) (pa_cons pe_int pa_nil))) pe_int (nomark _)) (pss_one (ps_ret pe_str)) pss_nil)
      (pss_one (ps_ret (pe_join pe_str (pe_lc (own := [("_law_sign", 2)]) (g := gName 2) rfl scSide.nd (pi_str (pe_op op_add_str pe_str (pv 1)))
        (blkOk_by (N := ["_law_row_here", "_law_letters_here", "_law_sign"]) (sc := defScope sSide) (by decide +kernel)) (fun _ _ _ _ _ => pg_name (i := 2) scSide.nd rfl (.inl rfl))
        (fun _ _ _ _ _ => pts_one (pt_cmpR op_eq (pe_call GT hr (by rfl) mT kT bT .nil pass0 (pa_cons (pv 0) (pa_cons pe_int pa_nil))) pe_int (nomark _))) (fun _ _ _ _ _ => pv 2))))), ?_⟩
    refine ⟨_, rfl, r, a, ns, 2, rfl, R, by decide, by decide, fun k1 H1 h0 h1 s1 R1 => ?_⟩
    refine ⟨rfl, _, rfl, ite2 (fun _ => ?_) (fun _ => ?_)⟩
    · have e := q [] H1 (List.nil_sublist _) s1 R1
      exact e
    refine ⟨⟨_, rfl⟩, _, rfl, _, _, rfl, rfl, (by rw [len_hash, T_len]; exact small (by omega)), ?_⟩
    refine ⟨T (35 :: L), congrArg V.str (hash_app L), fun D hD => ?_⟩
    refine lc_it (walk_str) (fun i H2 => ∃ acc : List Nat, H2 D = some (.lst (sg acc)) ∧ acc.Sublist ((35 :: L).take i) ∧ Stp r H1 H2 ∧ RowIn H2 r a) ?_ (fun _ _ _ _ => trivial) ?_ ?_
    · exact ⟨[], upd_same, List.nil_sublist _, Stp.of (same_new hD _), R1.in.upd (R1.nw hD)⟩
    · rintro i x H2 H2' hi ⟨acc, e1, e2, e3, e4⟩ ⟨rfl, c, hc, rfl⟩
      have hc := T_at hc
      have tk := take_next hc
      refine ⟨rfl, _, rfl, r, a, ns, 2, rfl, R1.of e3 e4, by decide, by decide, fun k2 H3 h0 h1 s2 R2 => ?_⟩
      have e1' := s2.one e1 (R1.nw hD)
      refine ⟨rfl, _, rfl, ite2 (fun _ => ?_) (fun _ => ?_)⟩
      · refine ⟨_, rfl, _, e1', ?_, acc ++ [c], ?_, ?_, (e3.trans s2).put hD _, R2.in.upd (R1.nw hD)⟩
        · have := e2.length_le
          rw [sg_len]
          rw [List.length_take, List.length_cons] at this
          exact small1000 (by omega)
        · rw [upd_same]
          exact congrArg (fun l => some (HO.lst l)) (sg_app acc c)
        · rw [tk]
          exact e2.append (List.Sublist.refl [c])
      · refine ⟨acc, e1', ?_, e3.trans s2, R2.in⟩
        rw [tk]
        exact e2.trans (List.sublist_append_left _ _)
    · rintro H2 ⟨acc, e1, e2, e3, e4⟩
      rw [T_size, List.take_length] at e2
      refine ⟨Str.ofString "", D, (acc.map fun c => [c]).map T, rfl, rfl, .inl (.inl (.inl ?_)), ?_, ?_⟩
      · rw [e1, sg_map]
      · rw [sum_ones]
        have := e2.length_le
        rw [List.length_cons] at this
        show acc.length + _ * 0 ≤ _
        omega
      · rw [show Str.ofString "" = T [] from nil_eq, join_nil, map_single]
        exact q acc H2 e2 (s1.trans e3) (R1.of e3 e4)
end
end Say
namespace Say
open PySem PySem.Spec PyProof.Rows L2
theorem paired_map {α β γ : Type} {F : α → β → Prop} {f : γ → α} {g : γ → β} : ∀ {l : List γ}, (∀ z ∈ l, F (f z) (g z)) → Paired F (l.map f) (l.map g)
  | [], _ => .nil
  | z :: l, h => .cons (h z (List.mem_cons_self ..)) (paired_map fun y hy => h y (List.mem_cons_of_mem _ hy))
theorem strOk_T {l : List Nat} (h : ∀ c ∈ l, c < 1114112) : PyData.strOk (T l) = true := by
  show l.toArray.all (· < 0x110000) = true
  rw [List.all_toArray, List.all_eq_true]
  intro c hc
  exact decide_eq_true (h c hc)
theorem shaped_two {x y : PyData} (hx : x.canLay0 = true) (hy : y.canLay0 = true) (dx : x.depth = 0) (dy : y.depth = 0) : SeqAt.shaped (.tuple [x, y]) = true := by
  unfold SeqAt.shaped
  rw [Bool.and_eq_true]
  refine ⟨?_, ?_⟩
  · show PyData.canLayAll0 [x, y] = true
    simp [PyData.canLayAll0, hx, hy]
  · refine decide_eq_true ?_
    show PyData.depthAll [x, y] + 1 ≤ 64
    simp [PyData.depthAll, dx, dy]
/-- the row stays where all but a dict does -/
theorem RowAt.stpD {K : PySem.W.Frag} {H H' : Hp} {r a F : Addr} {ns : List Int} {kvs : List (Key × V)} (R : RowAt K H r a ns) (hF : H F = some (.dK kvs)) (e : Stp F H H') : RowAt K H' r a ns := by
  obtain ⟨⟨i', c', m', q', b'⟩, sc, le⟩ := R
  refine ⟨⟨i', c', m', e _ _ q' (ne_of q' hF (by intro z; cases z)), b'⟩, ?_, le⟩
  rcases sc with (sc | ⟨o, sc⟩) | sc
  · exact .inl (.inl (e _ _ sc (ne_of sc hF (by intro z; cases z))))
  · exact .inl (.inr ⟨o, e _ _ sc (ne_of sc hF (by intro z; cases z))⟩)
  · exact .inr sc
end Say
namespace Say
open PySem PySem.Spec PyProof.Rows L2
/-- S is not where the script stands -/
def Off (K : PySem.W.Frag) (a S : Addr) (ns : List Int) : Prop := (∀ H : Hp, SqL K H a (ns.map V.int)) ∨ a ≠ S
theorem RowAt.off {K : PySem.W.Frag} {H : Hp} {r a S : Addr} {ns : List Int} (R : RowAt K H r a ns) (h : H S = none) : Off K a S ns := by
  obtain ⟨_, sc, _⟩ := R
  rcases sc with (sc | ⟨o, sc⟩) | sc
  · exact .inr (ne_of_none sc h)
  · exact .inr (ne_of_none sc h)
  · exact .inl fun H' => .inr sc
theorem RowAt.updS {K : PySem.W.Frag} {H : Hp} {r a S : Addr} {ns : List Int} {o : HO} (R : RowAt K H r a ns) (n : r ≠ S) (of : Off K a S ns) : RowAt K (upd H S o) r a ns := by
  obtain ⟨⟨i', c', m', q', b'⟩, sc, le⟩ := R
  refine ⟨⟨i', c', m', by rw [upd_ne n]; exact q', b'⟩, ?_, le⟩
  rcases of with of | of
  · exact of _
  · rcases sc with (sc | ⟨o, sc⟩) | sc
    · exact .inl (.inl (by rw [upd_ne of]; exact sc))
    · exact .inl (.inr ⟨o, by rw [upd_ne of]; exact sc⟩)
    · exact .inr sc
end Say
namespace Say
open PySem PySem.Spec PyProof.Rows L2
theorem lets_ok {L : List Nat} (h : L ∈ lets) : LetOk L := by
  have : ∀ L ∈ lets, LetOk L := by
    intro L h
    simp only [lets, List.mem_cons, List.not_mem_nil, or_false] at h
    rcases h with rfl | rfl | rfl | rfl <;> exact ⟨by decide, by decide, by decide, by decide⟩
  exact this L h
/-- what the law's own saying told, against ("", sounds) -/
theorem said_cmp {K : PySem.W.Frag} {H : Hp} {t u : Addr} {rs : List Rule} {es : List Exc} {wd so : List Nat} (ht : H t = some (.tup (saidV rs es wd))) (hu : H u = some (.tup [.str (Str.ofString ""), .str (T so)]))
    (ok : ∀ s, saidM rs es wd = some s → ∀ c ∈ s, c < 1114112) (oks : ∀ c ∈ so, c < 1114112) :
    ∃ d1 d2, Dp K H (.ref t) d1 ∧ Dp K H (.ref u) d2 ∧ SeqAt.shaped d1 = true ∧ SeqAt.shaped d2 = true ∧ PyData.eqv d1 d2 = decide (saidM rs es wd = some so) := by
  cases hM : saidM rs es wd with
  | some s =>
    refine ⟨.tuple [.str (T []), .str (T s)], .tuple [.str (Str.ofString ""), .str (T so)], ?_, .tup (.inl (.inl hu)) (.cons (.str _) (.cons (.str _) .nil)), shaped_two (by decide +kernel) (strOk_T (ok s hM)) rfl rfl, shaped_two (by decide +kernel) (strOk_T oks) rfl rfl, ?_⟩
    · unfold saidV at ht
      rw [hM] at ht
      exact .tup (.inl (.inl ht)) (.cons (.str _) (.cons (.str _) .nil))
    · rw [show Str.ofString "" = T [] from nil_eq]
      show ((T [] == T []) && ((T s == T so) && true)) = _
      rw [beq_self_eq_true, Bool.true_and, Bool.and_true]
      rw [Bool.eq_iff_iff, decide_eq_true_eq, beq_iff_eq]
      exact ⟨fun z => by rw [T_inj z], fun z => by rw [Option.some.inj z]⟩
  | none =>
    obtain ⟨p, hp⟩ := said_stuck' hM
    refine ⟨.tuple [.str (Str.ofString "unsaid"), .int (p : Nat)], .tuple [.str (Str.ofString ""), .str (T so)], ?_, .tup (.inl (.inl hu)) (.cons (.str _) (.cons (.str _) .nil)), shaped_two (by decide +kernel) rfl rfl rfl, shaped_two (by decide +kernel) (strOk_T oks) rfl rfl, ?_⟩
    · unfold saidV at ht
      rw [hM, hp] at ht
      exact .tup (.inl (.inl ht)) (.cons (.str _) (.cons (.int _) .nil))
    · show ((Str.ofString "unsaid" == Str.ofString "") && PyData.eqvAll [.int (p : Nat)] [.str (T so)]) = _
      rw [show (Str.ofString "unsaid" == Str.ofString "") = false by decide +kernel, Bool.false_and]
      rfl
theorem kt_updL {H : Hp} {S : Addr} {l : List V} {o : HO} (h : H S = some (.lst l)) : KT H (upd H S o) := kt_upd h
end Say
namespace Say
open PySem PySem.Spec PyProof.Rows L2
section
variable {P : Program} {w : World} {K : PySem.W.Frag} {mg : Str → Option Value} {base : Heap}
theorem ty_list {H : Hp} {a : Addr} {xs : List V} (h : SqL K H a xs) : TyX K H (.ref a) (.type "list") := by
  rcases h with (h | ⟨o, h⟩) | ⟨o, its, n, h, hc, _⟩
  · exact .base (.lst h)
  · exact .base (.frz h)
  · exact .kList h hc
theorem ty_tup {H : Hp} {a : Addr} {xs : List V} (h : SqT K H a xs) : TyX K H (.ref a) (.type "tuple") := by
  rcases h with (h | ⟨o, h⟩) | ⟨o, its, n, h, hc, _⟩
  · exact .base (.tup h)
  · exact .fTuple h
  · exact .kTuple h hc
abbrev sAl : Stmt := topS 54
abbrev psAl : List Str := ["_law_found", "_law_due"]
theorem scAl : FnScope ["_law_found", "_law_due", "_law_same_kind", "_law_k"] ["_law_found", "_law_due"] (defScope sAl) := ⟨rfl, rfl, rfl, by decide +kernel, rfl, by decide +kernel, by decide +kernel⟩
/-- two values of the same data, not too deep -/
def spAl (K : PySem.W.Frag) (n : Nat) : Sp := fun vs H Q _ => ∃ (x y : V) (d : PyData), vs = [x, y] ∧ Dp K H x d ∧ Dp K H y d ∧ Few d ∧ d.depth < n ∧ ∀ H', Same H H' → Q (.bl true) H'
theorem kit2 {t a b : String} {r : Bool} (h : (match kitB t a, kitB t b with | some true, _ => some true | some false, some x => some x | _, _ => none) = some r) (h2 : kitB t b ≠ none) : PySem.W.kitAny K (.type t) [.type a, .type b] = some r := by
  cases ha : kitB t a with
  | none => rw [ha] at h; cases h
  | some x =>
    rw [ha] at h
    cases x with
    | true =>
      have h : some true = some r := h
      cases h
      exact kitAny_cons (kit_ty ha) (fun z => by cases z) fun _ => rfl
    | false =>
      cases hb : kitB t b with
      | none => exact absurd hb h2
      | some y =>
        rw [hb] at h
        have h : some y = some r := h
        cases h
        refine kitAny_cons (kit_ty ha) (fun _ => ?_) fun z => by cases z
        refine kitAny_cons (kit_ty hb) (fun z => ?_) fun z => z
        rw [z]
        exact kitAny_nil
def tTL : TE := tTup (tCons (tC (.ty "tuple")) (tCons (tC (.ty "list")) tNil))
theorem ok_al {f : Addr} {fd : FuncData} {n : Nat} (F : Fun K "_law_alike" "_law_alike" sAl f fd) (G : FnOk P w K mg base CX0 n f fd psAl (spAl K n)) (bG : Binds K fd psAl []) (mG : mg "_law_alike" = some (.ref f)) (B : Bn mg) :
    FnOk P w K mg base CX0 (n + 1) f fd psAl (spAl K (n + 1)) := by
  refine F.ok scAl (fun vs H Q E h => ?_) (fun cdv A outer s H vs Q E hr h => ?_)
  · obtain ⟨x, y, d, rfl, _⟩ := h
    rfl
  · obtain ⟨x, y, d, rfl, hx, hy, hF, hd, q⟩ := h
    refine ⟨_, pss_cons (ps_if (pt_val (pe_callB call_isiT (by rfl) B.isi (by decide +kernel) (pa_cons (pv 1) (pa_cons (pe_tup (pa_cons (pe_bltn (v := .ty "tuple") rfl B.tup (by decide +kernel) rfl) (pa_cons (pe_bltn (v := .ty "list") rfl B.lst (by decide +kernel) rfl) pa_nil))) pa_nil))))
        (pss_cons (ps_if (PW.pt (pw_or (pt_cmpR op_ne (pe_callB call_isi (by rfl) B.isi (by decide +kernel) (pa_cons (pv 0) (pa_cons (pe_bltn (v := .ty "tuple") rfl B.tup (by decide +kernel) rfl) pa_nil))) (pe_callB call_isi (by rfl) B.isi (by decide +kernel) (pa_cons (pv 1) (pa_cons (pe_bltn (v := .ty "tuple") rfl B.tup (by decide +kernel) rfl) pa_nil))) (nomark _))
            (pw_or1 (pt_not (pt_val (pe_callB call_isiT (by rfl) B.isi (by decide +kernel) (pa_cons (pv 0) (pa_cons (pe_tup (pa_cons (pe_bltn (v := .ty "tuple") rfl B.tup (by decide +kernel) rfl) (pa_cons (pe_bltn (v := .ty "list") rfl B.lst (by decide +kernel) rfl) pa_nil))) pa_nil)))))))) (pss_one (ps_ret pe_bl)) pss_nil)
        (pss_cons (ps_if (pt_cmpR op_ne (pe_callB call_len (by rfl) B.len PySem.boot_len (pa_cons (pv 0) pa_nil)) (pe_callB call_len (by rfl) B.len PySem.boot_len (pa_cons (pv 1) pa_nil)) (nomark _)) (pss_one (ps_ret pe_bl)) pss_nil)
        (pss_one (ps_ret (pe_cmpR (op_eqD hr.units) (pe_lc (own := [("_law_k", 3)]) (g := gName 3) (te := tVar 3) (tt := tNot (tB (tCall (spAl K n) [] E0 (tCons (tOp (rIx K) (tVar 0) (tVar 3)) (tCons (tOp (rIx K) (tVar 1) (tVar 3)) tNil))))) rfl scAl.nd
            (pi_range1 rfl B.rng (pa_cons (pe_callB call_len (by rfl) B.len PySem.boot_len (pa_cons (pv 1) pa_nil)) pa_nil))
            (blkOk_by (N := ["_law_found", "_law_due", "_law_same_kind", "_law_k"]) (sc := defScope sAl) (by decide +kernel)) (fun _ _ _ _ _ => pg_name (i := 3) scAl.nd rfl (.inl rfl))
            (fun _ _ _ _ _ => pts_one (pt_not (pt_val (pe_call G hr (by rfl) mG F.kp bG .nil pass0 (pa_cons (pe_ix ix_seq (pv 0) (pv 3) (fun _ _ => rfl)) (pa_cons (pe_ix ix_seq (pv 1) (pv 3) (fun _ _ => rfl)) pa_nil)))))) (fun _ _ _ _ _ => pv 3)) (pe_lst pa_nil) (nomark _)))))) pss_nil)
      (pss_cons (ps_if (PW.pt (pw_or (pt_cmpR op_isN (pv 1) pe_non (nomark _)) (pw_or1 (pt_cmpR op_isN (pv 0) pe_non (nomark _))))) (pss_one (ps_ret (pe_and (pe_cmpR op_isN (pv 1) pe_non (nomark _)) (pe_one (pe_cmpR op_isN (pv 0) pe_non (nomark _)))))) pss_nil)
      (pss_cons (ps_set (i := 2) scAl.nd rfl (.inl rfl) (pe_cmpR op_eq (pe_callB call_isi (by rfl) B.isi (by decide +kernel) (pa_cons (pv 1) (pa_cons (pe_bltn (v := .ty "str") rfl B.str (by decide +kernel) rfl) pa_nil))) (pe_callB call_isi (by rfl) B.isi (by decide +kernel) (pa_cons (pv 0) (pa_cons (pe_bltn (v := .ty "str") rfl B.str (by decide +kernel) rfl) pa_nil))) (nomark _)))
      (pss_one (ps_ret (pe_and (pv 2) (pe_and (pe_cmpR op_eq (pe_callB call_isi (by rfl) B.isi (by decide +kernel) (pa_cons (pv 1) (pa_cons (pe_bltn (v := .ty "bool") rfl B.bool (by decide +kernel) rfl) pa_nil))) (pe_callB call_isi (by rfl) B.isi (by decide +kernel) (pa_cons (pv 0) (pa_cons (pe_bltn (v := .ty "bool") rfl B.bool (by decide +kernel) rfl) pa_nil))) (nomark _))
        (pe_one (pe_cmpR op_eq (pv 0) (pv 1) (nomark _))))))))), ?_⟩
    have clsTL : Paired ClsV [.ty "tuple", .ty "list"] [.type "tuple", .type "list"] := .cons (.ty _) (.cons (.ty _) .nil)
    cases d with
    | none =>
      cases hx
      cases hy
      refine ⟨_, rfl, (by show 2 ≤ sizeLine; decide), fun N hN => ?_⟩
      have sN := same_new hN (.tup [.ty "tuple", .ty "list"])
      refine ⟨_, N, _, .type "NoneType", _, false, rfl, upd_same, clsTL, .base (.non), kit2 (by decide +kernel) (by decide +kernel), false, rfl, iteF ?_⟩
      refine ⟨_, rfl, rfl, _, rfl, iteT ?_⟩
      refine ⟨_, rfl, rfl, _, rfl, iteT ?_⟩
      exact ⟨_, rfl, rfl, q _ sN⟩
    | bool v =>
      cases hx
      cases hy
      refine ⟨_, rfl, (by show 2 ≤ sizeLine; decide), fun N hN => ?_⟩
      have sN := same_new hN (.tup [.ty "tuple", .ty "list"])
      refine ⟨_, N, _, .type "bool", _, false, rfl, upd_same, clsTL, .base (.bl _), kit2 (by decide +kernel) (by decide +kernel), false, rfl, iteF ?_⟩
      have nn : decide (V.bl v = V.non) = false := decide_eq_false (fun z => by cases z)
      refine ⟨_, rfl, rfl, _, rfl, ?_⟩
      rw [nn]
      refine iteF ?_
      refine ⟨_, rfl, rfl, _, rfl, ?_⟩
      rw [nn]
      refine iteF ?_
      refine ⟨_, rfl, _, _, .type "bool", _, false, rfl, ClsV.ty _, .base (.bl _), kit_ty (by decide +kernel), _, rfl, _, _, .type "bool", _, false, rfl, ClsV.ty _, .base (.bl _), kit_ty (by decide +kernel), rfl, ?_⟩
      refine ⟨_, rfl, true, rfl, iteT ?_⟩
      refine ⟨_, rfl, _, _, .type "bool", _, true, rfl, ClsV.ty _, .base (.bl _), kit_ty (by decide +kernel), _, rfl, _, _, .type "bool", _, true, rfl, ClsV.ty _, .base (.bl _), kit_ty (by decide +kernel), rfl, true, rfl, iteT ?_⟩
      refine ⟨_, rfl, _, rfl, rfl, ?_⟩
      rw [decide_eq_true rfl]
      exact q _ sN
    | int v =>
      cases hx
      cases hy
      refine ⟨_, rfl, (by show 2 ≤ sizeLine; decide), fun N hN => ?_⟩
      have sN := same_new hN (.tup [.ty "tuple", .ty "list"])
      refine ⟨_, N, _, .type "int", _, false, rfl, upd_same, clsTL, .base (.int _), kit2 (by decide +kernel) (by decide +kernel), false, rfl, iteF ?_⟩
      have nn : decide (V.int v = V.non) = false := decide_eq_false (fun z => by cases z)
      refine ⟨_, rfl, rfl, _, rfl, ?_⟩
      rw [nn]
      refine iteF ?_
      refine ⟨_, rfl, rfl, _, rfl, ?_⟩
      rw [nn]
      refine iteF ?_
      refine ⟨_, rfl, _, _, .type "int", _, false, rfl, ClsV.ty _, .base (.int _), kit_ty (by decide +kernel), _, rfl, _, _, .type "int", _, false, rfl, ClsV.ty _, .base (.int _), kit_ty (by decide +kernel), rfl, ?_⟩
      refine ⟨_, rfl, true, rfl, iteT ?_⟩
      refine ⟨_, rfl, _, _, .type "int", _, false, rfl, ClsV.ty _, .base (.int _), kit_ty (by decide +kernel), _, rfl, _, _, .type "int", _, false, rfl, ClsV.ty _, .base (.int _), kit_ty (by decide +kernel), rfl, true, rfl, iteT ?_⟩
      refine ⟨_, rfl, _, rfl, rfl, ?_⟩
      rw [decide_eq_true rfl]
      exact q _ sN
    | str v =>
      cases hx
      cases hy
      refine ⟨_, rfl, (by show 2 ≤ sizeLine; decide), fun N hN => ?_⟩
      have sN := same_new hN (.tup [.ty "tuple", .ty "list"])
      refine ⟨_, N, _, .type "str", _, false, rfl, upd_same, clsTL, .base (.str _), kit2 (by decide +kernel) (by decide +kernel), false, rfl, iteF ?_⟩
      have nn : decide (V.str v = V.non) = false := decide_eq_false (fun z => by cases z)
      refine ⟨_, rfl, rfl, _, rfl, ?_⟩
      rw [nn]
      refine iteF ?_
      refine ⟨_, rfl, rfl, _, rfl, ?_⟩
      rw [nn]
      refine iteF ?_
      refine ⟨_, rfl, _, _, .type "str", _, true, rfl, ClsV.ty _, .base (.str _), kit_ty (by decide +kernel), _, rfl, _, _, .type "str", _, true, rfl, ClsV.ty _, .base (.str _), kit_ty (by decide +kernel), rfl, ?_⟩
      refine ⟨_, rfl, true, rfl, iteT ?_⟩
      refine ⟨_, rfl, _, _, .type "str", _, false, rfl, ClsV.ty _, .base (.str _), kit_ty (by decide +kernel), _, rfl, _, _, .type "str", _, false, rfl, ClsV.ty _, .base (.str _), kit_ty (by decide +kernel), rfl, true, rfl, iteT ?_⟩
      refine ⟨_, rfl, _, rfl, rfl, ?_⟩
      rw [decide_eq_true rfl]
      exact q _ sN
    | list ds =>
      cases hx with
      | @lst xa xs _ hxs dx =>
      cases hy with
      | @lst ya ys _ hys dy =>
      cases hF with
      | lst hlen hFs =>
      have lx := dpa_len dx
      have ly := dpa_len dy
      have hd' : PyData.depthAll ds + 1 < n + 1 := hd
      refine ⟨_, rfl, (by show 2 ≤ sizeLine; decide), fun N hN => ?_⟩
      have sN := same_new hN (.tup [.ty "tuple", .ty "list"])
      refine ⟨_, N, _, .type "list", _, true, rfl, upd_same, clsTL, ty_list (Same.seq sN hys), kit2 (by decide +kernel) (by decide +kernel), true, rfl, iteT ?_⟩
      refine ⟨_, rfl, _, _, .type "list", _, false, rfl, ClsV.ty _, ty_list (Same.seq sN hxs), kit_ty (by decide +kernel), _, rfl, _, _, .type "list", _, false, rfl, ClsV.ty _, ty_list (Same.seq sN hys), kit_ty (by decide +kernel), rfl, _, rfl, iteF ?_⟩
      refine ⟨_, rfl, (by show 2 ≤ sizeLine; decide), fun M hM => ?_⟩
      have sM := sN.trans (same_new hM (.tup [.ty "tuple", .ty "list"]))
      refine ⟨_, M, _, .type "list", _, true, rfl, upd_same, clsTL, ty_list (Same.seq sM hxs), kit2 (by decide +kernel) (by decide +kernel), true, rfl, iteF ?_⟩
      refine ⟨_, rfl, _, _, rfl, .inl ⟨_, Same.seq sM hxs, rfl⟩, _, rfl, _, _, rfl, .inl ⟨_, Same.seq sM hys, rfl⟩, rfl, _, rfl, ?_⟩
      rw [lx, ly, decide_eq_true rfl]
      refine iteF ?_
      refine ⟨_, rfl, _, _, rfl, .inl ⟨_, Same.seq sM hys, rfl⟩, _, rfl, by omega, by rw [ly]; omega, fun D hD => ?_⟩
      refine lc_it (walk_range) (fun i H2 => H2 D = some (.lst []) ∧ Same H H2) ?_ (fun _ _ _ _ => trivial) ?_ ?_
      · exact ⟨upd_same, sM.trans (same_new hD _)⟩
      · rintro i v H2 H2' hi ⟨e1, e2⟩ ⟨rfl, rfl⟩
        have hi2 : i < ds.length := by rw [ly] at hi; omega
        obtain ⟨vx, gx, px⟩ := dpa_at dx (List.getElem?_eq_getElem hi2)
        obtain ⟨vy, gy, py⟩ := dpa_at dy (List.getElem?_eq_getElem hi2)
        have hm : ds[i] ∈ ds := List.getElem_mem hi2
        refine ⟨rfl, ?_⟩
        refine ⟨_, rfl, _, rfl, .inl ⟨xa, _, _, _, rfl, rfl, Same.seq e2 hxs, atI_of gx (by omega), ?_⟩⟩
        refine ⟨_, rfl, _, rfl, .inl ⟨ya, _, _, _, rfl, rfl, Same.seq e2 hys, atI_of gy (by omega), ?_⟩⟩
        refine ⟨vx, vy, ds[i], rfl, dp_same e2 px, dp_same e2 py, hFs _ hm, by have := depth_mem hm; omega, fun H3 s3 => ?_⟩
        exact ⟨true, rfl, iteF ⟨s3 _ _ e1, e2.trans s3⟩⟩
      · rintro H2 ⟨e1, e2⟩
        refine ⟨(by show 0 ≤ sizeLine; decide), fun E' hE => ?_⟩
        have sE := same_new hE (.lst [])
        refine ⟨.list [], .list [], .lst (.inl (.inl (sE _ _ e1))) .nil, .lst (.inl (.inl upd_same)) .nil, by decide +kernel, by decide +kernel, ?_⟩
        exact q _ (e2.trans sE)
    | tuple ds =>
      cases hx with
      | @tup xa xs _ hxs dx =>
      cases hy with
      | @tup ya ys _ hys dy =>
      cases hF with
      | tup hlen hFs =>
      have lx := dpa_len dx
      have ly := dpa_len dy
      have hd' : PyData.depthAll ds + 1 < n + 1 := hd
      refine ⟨_, rfl, (by show 2 ≤ sizeLine; decide), fun N hN => ?_⟩
      have sN := same_new hN (.tup [.ty "tuple", .ty "list"])
      refine ⟨_, N, _, .type "tuple", _, true, rfl, upd_same, clsTL, ty_tup (Same.seqT sN hys), kit2 (by decide +kernel) (by decide +kernel), true, rfl, iteT ?_⟩
      refine ⟨_, rfl, _, _, .type "tuple", _, true, rfl, ClsV.ty _, ty_tup (Same.seqT sN hxs), kit_ty (by decide +kernel), _, rfl, _, _, .type "tuple", _, true, rfl, ClsV.ty _, ty_tup (Same.seqT sN hys), kit_ty (by decide +kernel), rfl, _, rfl, iteF ?_⟩
      refine ⟨_, rfl, (by show 2 ≤ sizeLine; decide), fun M hM => ?_⟩
      have sM := sN.trans (same_new hM (.tup [.ty "tuple", .ty "list"]))
      refine ⟨_, M, _, .type "tuple", _, true, rfl, upd_same, clsTL, ty_tup (Same.seqT sM hxs), kit2 (by decide +kernel) (by decide +kernel), true, rfl, iteF ?_⟩
      refine ⟨_, rfl, _, _, rfl, .inr ⟨_, Same.seqT sM hxs, rfl⟩, _, rfl, _, _, rfl, .inr ⟨_, Same.seqT sM hys, rfl⟩, rfl, _, rfl, ?_⟩
      rw [lx, ly, decide_eq_true rfl]
      refine iteF ?_
      refine ⟨_, rfl, _, _, rfl, .inr ⟨_, Same.seqT sM hys, rfl⟩, _, rfl, by omega, by rw [ly]; omega, fun D hD => ?_⟩
      refine lc_it (walk_range) (fun i H2 => H2 D = some (.lst []) ∧ Same H H2) ?_ (fun _ _ _ _ => trivial) ?_ ?_
      · exact ⟨upd_same, sM.trans (same_new hD _)⟩
      · rintro i v H2 H2' hi ⟨e1, e2⟩ ⟨rfl, rfl⟩
        have hi2 : i < ds.length := by rw [ly] at hi; omega
        obtain ⟨vx, gx, px⟩ := dpa_at dx (List.getElem?_eq_getElem hi2)
        obtain ⟨vy, gy, py⟩ := dpa_at dy (List.getElem?_eq_getElem hi2)
        have hm : ds[i] ∈ ds := List.getElem_mem hi2
        refine ⟨rfl, ?_⟩
        refine ⟨_, rfl, _, rfl, .inr (.inl ⟨xa, _, _, _, rfl, rfl, Same.seqT e2 hxs, atI_of gx (by omega), ?_⟩)⟩
        refine ⟨_, rfl, _, rfl, .inr (.inl ⟨ya, _, _, _, rfl, rfl, Same.seqT e2 hys, atI_of gy (by omega), ?_⟩)⟩
        refine ⟨vx, vy, ds[i], rfl, dp_same e2 px, dp_same e2 py, hFs _ hm, by have := depth_mem hm; omega, fun H3 s3 => ?_⟩
        exact ⟨true, rfl, iteF ⟨s3 _ _ e1, e2.trans s3⟩⟩
      · rintro H2 ⟨e1, e2⟩
        refine ⟨(by show 0 ≤ sizeLine; decide), fun E' hE => ?_⟩
        have sE := same_new hE (.lst [])
        refine ⟨.list [], .list [], .lst (.inl (.inl (sE _ _ e1))) .nil, .lst (.inl (.inl upd_same)) .nil, by decide +kernel, by decide +kernel, ?_⟩
        exact q _ (e2.trans sE)
    | dict kvs => cases hF
theorem al_all {f : Addr} {fd : FuncData} (F : Fun K "_law_alike" "_law_alike" sAl f fd) (bG : Binds K fd psAl []) (mG : mg "_law_alike" = some (.ref f)) (B : Bn mg) : ∀ n : Nat, FnOk P w K mg base CX0 n f fd psAl (spAl K n)
  | 0 => by
    have no : ∀ vs H Q E, ¬ spAl K 0 vs H Q E := fun vs H Q E h => by
      obtain ⟨x, y, d, _, _, _, _, hd, _⟩ := h
      exact Nat.not_lt_zero _ hd
    exact ⟨fun vs H Q E h => absurd h (no vs H Q E), fun A outer s H args us vs Q E _ _ _ _ h => absurd h (no vs H Q E)⟩
  | n + 1 => ok_al F (al_all F bG mG B n) bG mG B
end
end Say
namespace Say
open PySem PySem.Spec PyProof.Rows L2
section
variable {P : Program} {w : World} {K : PySem.W.Frag} {mg : Str → Option Value} {base : Heap}
abbrev sText : Stmt := topS 47
theorem scText : FnScope ["_law_row_here", "_law_signs", "_law_fewest", "_law_many", "_law_k"] ["_law_row_here", "_law_signs", "_law_fewest", "_law_many"] (defScope sText) := ⟨rfl, rfl, rfl, by decide +kernel, rfl, by decide +kernel, by decide +kernel⟩
def spText (K : PySem.W.Frag) : Sp := fun vs H Q _ => ∃ (r a : Addr) (ns : List Int) (S : List Nat) (lo hi : Nat), vs = [.ref r, .str (T S), .int lo, .int hi] ∧ RowAt K H r a ns ∧ 0 < S.length ∧ S.length ≤ 100 ∧ lo ≤ hi ∧ hi ≤ 100 ∧
  ∀ (z : List Nat) (H' : Hp), (∀ c ∈ z, c ∈ S) → lo ≤ z.length → z.length ≤ hi → Stp r H H' → RowAt K H' r a ns → Q (.str (T z)) H'
theorem ok_text {f : Addr} {fd : FuncData} (F : Fun K "_law_text" "_law_text" sText f fd) (DT : Df P w K mg base "_law_taken" ["_law_row_here", "_law_many"] 1 (spTaken K)) (ml : mg "len" = none) (mr : mg "range" = none) :
    FnOk P w K mg base CX0 2 f fd ["_law_row_here", "_law_signs", "_law_fewest", "_law_many"] (spText K) := by
  obtain ⟨fT, fdT, GT, kT, bT, mT⟩ := DT
  refine F.ok scText (fun vs H Q E h => ?_) (fun cdv A outer s H vs Q E hr h => ?_)
  · obtain ⟨r, a, ns, S, lo, hi, rfl, _⟩ := h
    rfl
  · obtain ⟨r, a, ns, S, lo, hi, rfl, R, hS0, hS1, hlh, hh, q⟩ := h
    refine ⟨_, pss_one (ps_ret (pe_join pe_str (pe_lc (own := [("_law_k", 4)]) (g := gName 4) rfl scText.nd
        (pi_range1 rfl mr (pa_cons (pe_op op_add (pv 2) (pe_call GT hr (by rfl) mT kT bT .nil pass0 (pa_cons (pv 0) (pa_cons (pe_op op_add (pe_op op_sub (pv 3) (pv 2)) pe_int) pa_nil)))) pa_nil))
        (blkOk_by (N := ["_law_row_here", "_law_signs", "_law_fewest", "_law_many", "_law_k"]) (sc := defScope sText) (by decide +kernel)) (fun _ _ _ _ _ => pg_name (i := 4) scText.nd rfl (.inl rfl))
        (fun _ _ _ _ _ => pts_nil) (fun _ _ _ _ _ => pe_ix ix_str (pv 1) (pe_call GT hr (by rfl) mT kT bT .nil pass0 (pa_cons (pv 0) (pa_cons (pe_callB call_len_str (by rfl) ml PySem.boot_len (pa_cons (pv 1) pa_nil)) pa_nil))) (fun _ _ => rfl))))), ?_⟩
    refine ⟨⟨_, rfl⟩, _, rfl, _, rfl, _, rfl, _, rfl, _, _, rfl, rfl, _, _, rfl, rfl, r, a, ns, _, rfl, R, by omega, by omega, fun k1 H1 h0 h1 s1 R1 => ?_⟩
    refine ⟨_, _, rfl, rfl, (lo : Int) + k1, rfl, by omega, by omega, fun D hD => ?_⟩
    refine lc_it (walk_range) (fun i H2 => ∃ acc : List Nat, H2 D = some (.lst (sg acc)) ∧ acc.length = i ∧ (∀ c ∈ acc, c ∈ S) ∧ Stp r H1 H2 ∧ RowIn H2 r a) ?_ (fun _ _ _ _ => trivial) ?_ ?_
    · exact ⟨[], upd_same, rfl, by simp, Stp.of (same_new hD _), R1.in.upd (R1.nw hD)⟩
    · rintro i x H2 H2' hi' ⟨acc, e1, e2, e3, e4, e5⟩ ⟨rfl, rfl⟩
      refine ⟨rfl, ?_⟩
      refine ⟨_, rfl, _, rfl, _, rfl, _, rfl, (by rw [T_len]; exact small (by omega)), r, a, ns, _, rfl, R1.of e4 e5, (by rw [T_len]; omega), (by rw [T_len]; omega), fun k2 H3 h2 h3 s2 R2 => ?_⟩
      have e1' := s2.one e1 (R1.nw hD)
      rw [T_len] at h3
      have hj : k2.toNat < S.length := by omega
      refine ⟨T S, k2, S[k2.toNat], rfl, rfl, (by rw [T_len]; exact small (by omega)), at_list hj (by omega), ?_⟩
      refine ⟨_, e1', ?_, acc ++ [S[k2.toNat]], ?_, by simp [e2], ?_, (e4.trans s2).put hD _, R2.in.upd (R1.nw hD)⟩
      · rw [sg_len]
        exact small1000 (by omega)
      · rw [upd_same]
        exact congrArg (fun l => some (HO.lst l)) (sg_app acc _)
      · intro c hc
        rcases List.mem_append.mp hc with h | h
        · exact e3 c h
        · rw [List.mem_singleton.mp h]
          exact List.getElem_mem hj
    · rintro H2 ⟨acc, e1, e2, e3, e4, e5⟩
      refine ⟨Str.ofString "", D, (acc.map fun c => [c]).map T, rfl, rfl, .inl (.inl (.inl ?_)), ?_, ?_⟩
      · rw [e1, sg_map]
      · rw [sum_ones]
        show acc.length + _ * 0 ≤ _
        omega
      · rw [show Str.ofString "" = T [] from nil_eq, join_nil, map_single]
        exact q acc H2 e3 (by omega) (by omega) (s1.trans e4) (R1.of e4 e5)
end
end Say
namespace Say
open PySem PySem.Spec PyProof.Rows L2
section
variable {P : Program} {w : World} {K : PySem.W.Frag} {mg : Str → Option Value} {base : Heap}
abbrev sRule : Stmt := topS 48
theorem scRule : FnScope ["_law_row_here", "_law_letters_here", "_law_ahead", "_law_own"] ["_law_row_here", "_law_letters_here"] (defScope sRule) := ⟨rfl, rfl, rfl, by decide +kernel, rfl, by decide +kernel, by decide +kernel⟩
def spRule (K : PySem.W.Frag) : Sp := fun vs H Q _ => ∃ (r a : Addr) (ns : List Int) (L : List Nat), vs = [.ref r, .str (T L)] ∧ RowAt K H r a ns ∧ 0 < L.length ∧ L.length ≤ 4 ∧
  ∀ (ρ : Rule) (t : Addr) (H' : Hp), RuleOk L ρ → H' t = some (.tup ρ.vs) → Stp r H H' → RowAt K H' r a ns → Q (.ref t) H'
theorem AB_eq : Str.ofString "AB" = T [65, 66] := by decide +kernel
theorem AB_ok {z : List Nat} (h : ∀ c ∈ z, c ∈ [65, 66]) : ∀ c ∈ z, 65 ≤ c ∧ c ≤ 90 := fun c hc => by
  have := h c hc
  simp at this
  omega
theorem ok_rule {f : Addr} {fd : FuncData} (F : Fun K "_law_rule" "_law_rule" sRule f fd) (DT : Df P w K mg base "_law_taken" ["_law_row_here", "_law_many"] 1 (spTaken K))
    (DS : Df P w K mg base "_law_side" ["_law_row_here", "_law_letters_here"] 2 (spSide K)) (DX : Df P w K mg base "_law_text" ["_law_row_here", "_law_signs", "_law_fewest", "_law_many"] 2 (spText K)) :
    FnOk P w K mg base CX0 3 f fd ["_law_row_here", "_law_letters_here"] (spRule K) := by
  obtain ⟨fT, fdT, GT, kT, bT, mT⟩ := DT
  obtain ⟨fS, fdS, GS, kS, bS, mS⟩ := DS
  obtain ⟨fX, fdX, GX, kX, bX, mX⟩ := DX
  refine F.ok scRule (fun vs H Q E h => ?_) (fun cdv A outer s H vs Q E hr h => ?_)
  · obtain ⟨r, a, ns, L, rfl, _⟩ := h
    rfl
  · obtain ⟨r, a, ns, L, rfl, R, hl0, hl, q⟩ := h
    have hr1 : Room 1 _ := hr.mono (by decide)
    refine ⟨_, pss_cons (ps_par (i := 2) (j := 3) (by rfl) scRule.nd rfl rfl (by decide) rfl rfl (pa_cons (pe_call GS hr (by rfl) mS kS bS .nil pass0 (pa_cons (pv 0) (pa_cons (pv 1) pa_nil)))
          (pa_cons (pe_call GX hr (by rfl) mX kX bX .nil pass0 (pa_cons (pv 0) (pa_cons (pv 1) (pa_cons pe_int (pa_cons pe_int pa_nil))))) pa_nil)) (by rfl))
      (pss_one (ps_ret (pe_tup (pa_cons (pv 2) (pa_cons (pv 3) (pa_cons (pe_call GS hr (by rfl) mS kS bS .nil pass0 (pa_cons (pv 0) (pa_cons (pv 1) pa_nil)))
        (pa_cons (pe_call GX hr (by rfl) mX kX bX .nil pass0 (pa_cons (pv 0) (pa_cons pe_str (pa_cons pe_int (pa_cons (pe_ix ix_list (pe_lst (pa_cons pe_int (pa_cons pe_int (pa_cons pe_int pa_nil)))) (pe_call GT hr1 (by rfl) mT kT bT .nil pass0 (pa_cons (pv 0) (pa_cons pe_int pa_nil))) (fun _ _ => rfl)) pa_nil))))) pa_nil))))))), ?_⟩
    refine ⟨_, rfl, _, rfl, r, a, ns, L, rfl, R, hl, fun ah H1 o1 s1 R1 => ?_⟩
    refine ⟨_, rfl, _, rfl, r, a, ns, L, 1, 2, rfl, R1, hl0, by omega, by decide, by decide, fun ow H2 o2 o3 o4 s2 R2 => ?_⟩
    refine ⟨_, _, rfl, ?_⟩
    refine ⟨_, rfl, _, rfl, _, rfl, _, rfl, r, a, ns, L, rfl, R2, hl, fun be H3 o5 s3 R3 => ?_⟩
    refine ⟨_, rfl, (by show 3 ≤ sizeLine; decide), fun p hp => ?_⟩
    have sm := same_new hp (.lst [V.int 1, .int 1, .int 3])
    refine ⟨_, rfl, r, a, ns, 3, rfl, R3.stp sm, by decide, by decide, fun k1 H4 h0 h1 s4 R4 => ?_⟩
    have hL : SqL K H4 p [V.int 1, .int 1, .int 3] := .inl (.inl (s4 _ _ upd_same (R3.nw hp).symm))
    have s34 := (Stp.of sm).trans s4
    have fin : ∀ m : Nat, m ≤ 3 → ∀ (so : List Nat) (H5 : Hp), (∀ c ∈ so, c ∈ [65, 66]) → 0 ≤ so.length → so.length ≤ m → Stp r H4 H5 → RowAt K H5 r a ns → 
        (4 ≤ sizeLine ∧ ∀ t, H5 t = none → Q (.ref t) (upd H5 t (.tup [.str (T ah), .str (T ow), .str (T be), .str (T so)]))) := fun m hm so H5 o6 _ o7 s5 R5 =>
      ⟨by decide, fun t ht => q ⟨ah, ow, be, so⟩ t _ ⟨o1, o2, o3, o4, o5, AB_ok o6, by show so.length ≤ 3; omega⟩ upd_same (s1.trans (s2.trans (s3.trans (s34.trans (s5.trans (Stp.of (same_new ht _))))))) (R5.stp (same_new ht _))⟩
    have hk : k1 = 0 ∨ k1 = 1 ∨ k1 = 2 := by omega
    rcases hk with e | e | e
    · exact ⟨p, _, k1, V.int 1, rfl, rfl, hL, at_of (j := 0) e rfl, r, a, ns, [65, 66], 0, 1, by rw [AB_eq]; rfl, R4, by decide, by decide, by decide, by decide, fin 1 (by decide)⟩
    · exact ⟨p, _, k1, V.int 1, rfl, rfl, hL, at_of (j := 1) e rfl, r, a, ns, [65, 66], 0, 1, by rw [AB_eq]; rfl, R4, by decide, by decide, by decide, by decide, fin 1 (by decide)⟩
    · exact ⟨p, _, k1, V.int 3, rfl, rfl, hL, at_of (j := 2) e rfl, r, a, ns, [65, 66], 0, 3, by rw [AB_eq]; rfl, R4, by decide, by decide, by decide, by decide, fin 3 (by decide)⟩
abbrev sRules : Stmt := topS 49
theorem scRules : FnScope ["_law_row_here", "_law_letters_here", "_law_most", "_law_found", "_law_letter", "_law_k"] ["_law_row_here", "_law_letters_here", "_law_most"] (defScope sRules) := ⟨rfl, rfl, rfl, by decide +kernel, rfl, by decide +kernel, by decide +kernel⟩
def spRules (K : PySem.W.Frag) : Sp := fun vs H Q _ => ∃ (r a : Addr) (ns : List Int) (L : List Nat) (n : Nat), vs = [.ref r, .str (T L), .int n] ∧ RowAt K H r a ns ∧ 0 < L.length ∧ L.length ≤ 4 ∧ n ≤ 20 ∧
  ∀ (rs : List Rule) (R : Addr) (H' : Hp), (∀ ρ ∈ rs, RuleOk L ρ) → rs.length ≤ n + L.length → RulesAt H' R rs → Stp r H H' → RowAt K H' r a ns → Q (.ref R) H'
theorem ok_rules {f : Addr} {fd : FuncData} (F : Fun K "_law_rules" "_law_rules" sRules f fd) (DT : Df P w K mg base "_law_taken" ["_law_row_here", "_law_many"] 1 (spTaken K))
    (DR : Df P w K mg base "_law_rule" ["_law_row_here", "_law_letters_here"] 3 (spRule K)) (mr : mg "range" = none) (mt : mg "tuple" = none) :
    FnOk P w K mg base CX0 4 f fd ["_law_row_here", "_law_letters_here", "_law_most"] (spRules K) := by
  obtain ⟨fT, fdT, GT, kT, bT, mT⟩ := DT
  obtain ⟨fR, fdR, GR, kR, bR, mR⟩ := DR
  refine F.ok scRules (fun vs H Q E h => ?_) (fun cdv A outer s H vs Q E hr h => ?_)
  · obtain ⟨r, a, ns, L, n, rfl, _⟩ := h
    rfl
  · obtain ⟨r, a, ns, L, n, rfl, R, hl0, hl, hn, q⟩ := h
    have hr1 : Room 1 _ := hr.mono (by decide)
    refine ⟨_, pss_cons (ps_setLc (i := 3) (own := [("_law_k", 5)]) (g := gName 5) rfl scRules.nd rfl rfl (sw_true rfl rfl rfl (by decide +kernel))
        (pi_range1 rfl mr (pa_cons (pe_call GT hr1 (by rfl) mT kT bT .nil pass0 (pa_cons (pv 0) (pa_cons (pe_op op_add (pv 2) pe_int) pa_nil))) pa_nil))
        (blkOk_by (N := ["_law_row_here", "_law_letters_here", "_law_most", "_law_found", "_law_letter", "_law_k"]) (sc := defScope sRules) (by decide +kernel)) (fun _ _ _ _ _ => pg_name (i := 5) scRules.nd rfl (.inl rfl))
        (fun _ _ _ _ _ => pts_nil) (fun _ _ _ _ _ => pe_call GR hr (by rfl) mR kR bR .nil pass0 (pa_cons (pv 0) (pa_cons (pv 1) pa_nil))))
      (pss_cons (ps_if (pt_cmpR op_gt (pe_call GT hr1 (by rfl) mT kT bT .nil pass0 (pa_cons (pv 0) (pa_cons pe_int pa_nil))) pe_int (nomark _))
        (pss_one (ps_for PassesOwn.never rfl (pi_str (pv 1)) (pg_name (i := 4) scRules.nd rfl (.inl rfl))
          (pss_one (ps_expr (pe_bm PySem.F.plainAttrs_list PySem.F.slot_list_append PySem.F.type_list_append mt_append (pv 3)
            (pa_cons (pe_tup (pa_cons pe_str (pa_cons (pv 4) (pa_cons pe_str (pa_cons (pe_ix ix_list (pe_lst (pa_cons pe_str (pa_cons pe_str (pa_cons pe_str (pa_cons pe_str pa_nil))))) (pe_call GT hr1 (by rfl) mT kT bT .nil pass0 (pa_cons (pv 0) (pa_cons pe_int pa_nil))) (fun _ _ => rfl)) pa_nil))))) pa_nil)))))) pss_nil)
      (pss_one (ps_ret (pe_callTy call_tuple_of (by rfl) mt (by decide +kernel) (pa_cons (pv 3) pa_nil))))), ?_⟩
    refine ⟨_, rfl, _, rfl, _, _, rfl, rfl, r, a, ns, _, rfl, R, by omega, by omega, fun k1 H1 h0 h1 s1 R1 => ?_⟩
    refine ⟨k1, rfl, by omega, by omega, fun D hD => ?_⟩
    have nD := R1.nw hD
    refine lc_it (walk_range) (fun i H2 => ∃ (ts : List Addr) (rs : List Rule), H2 D = some (.lst (ts.map V.ref)) ∧ Paired (fun t ρ => H2 t = some (.tup (Rule.vs ρ))) ts rs ∧ rs.length = i ∧ (∀ ρ ∈ rs, RuleOk L ρ) ∧ Stp r H1 H2 ∧ RowIn H2 r a) ?_ (fun _ _ _ _ => trivial) ?_ ?_
    · exact ⟨[], [], upd_same, .nil, rfl, by simp, Stp.of (same_new hD _), R1.in.upd nD⟩
    · rintro i x H2 H2' hi' ⟨ts, rs, e1, e2, e3, e4, e5, e6⟩ ⟨rfl, rfl⟩
      refine ⟨rfl, ?_⟩
      refine ⟨_, rfl, _, rfl, r, a, ns, L, rfl, R1.of e5 e6, hl0, hl, fun ρ t H3 o1 o2 s2 R2 => ?_⟩
      have e1' := s2.one e1 nD
      have kt := (s2.kt e6).trans (kt_upd e1' (o := .lst (ts.map V.ref ++ [.ref t])))
      refine ⟨_, e1', ?_, ts ++ [t], rs ++ [ρ], ?_, ?_, by simp [e3], ?_, (e5.trans s2).put hD _, R2.in.upd nD⟩
      · rw [List.length_map, paired_len e2]
        exact small1000 (by omega)
      · rw [upd_same, List.map_append]
        rfl
      · exact paired_app (paired_mono (fun t ρ h => kt.1 _ _ h) e2) (.cons ((kt_upd e1').1 _ _ o2) .nil)
      · intro c hc
        rcases List.mem_append.mp hc with h | h
        · exact e4 c h
        · rw [List.mem_singleton.mp h]
          exact o1
    · rintro H2 ⟨ts, rs, e1, e2, e3, e4, e5, e6⟩
      have e3' : rs.length ≤ n := by omega
      refine ⟨_, rfl, r, a, ns, 4, rfl, R1.of e5 e6, by decide, by decide, fun k2 H3 h2 h3 s2 R2 => ?_⟩
      have e1' := s2.one e1 nD
      have e2' := paired_mono (fun t ρ h => (s2.kt e6).1 _ _ h) e2
      have e5' := e5.trans s2
      -- the end: tuple(found)
      have fin : ∀ (H4 : Hp) (ts : List Addr) (rs : List Rule), H4 D = some (.lst (ts.map V.ref)) → Paired (fun t ρ => H4 t = some (.tup (Rule.vs ρ))) ts rs → rs.length ≤ n + L.length → (∀ ρ ∈ rs, RuleOk L ρ) → Stp r H1 H4 → RowIn H4 r a → ∀ t, H4 t = none → Q (.ref t) (upd H4 t (.tup (ts.map V.ref))) := fun H4 ts rs f1 f2 f3 f4 f5 f6 t ht =>
        q rs t _ f4 f3 ⟨ts, upd_same, paired_mono (fun t ρ h => (kt_new ht).1 _ _ h) f2⟩ (s1.trans (f5.trans (Stp.of (same_new ht _)))) ((R1.of f5 f6).stp (same_new ht _))
      refine ⟨_, _, rfl, rfl, _, rfl, ite2 (fun _ => ?_) (fun _ => ?_)⟩
      · refine ⟨_, rfl, T L, rfl, for_it (walk_str) (fun i σ H4 => ∃ (ts : List Addr) (rs : List Rule) (v : Option V), σ = [some (.ref r), some (.str (T L)), some (.int n), some (.ref D), v, none] ∧ H4 D = some (.lst (ts.map V.ref)) ∧ Paired (fun t ρ => H4 t = some (.tup (Rule.vs ρ))) ts rs ∧ rs.length ≤ n + i ∧ (∀ ρ ∈ rs, RuleOk L ρ) ∧ Stp r H1 H4 ∧ RowIn H4 r a)
          ⟨ts, rs, _, rfl, e1', e2', by omega, e4, e5', R2.in⟩ (fun _ _ _ _ _ => trivial) ?_ ?_⟩
        · rintro i x σ H4 H4' hi' ⟨ts, rs, v, rfl, e1, e2, e3, e4, e5, e6⟩ ⟨rfl, c, hc, rfl⟩
          have hc := T_at hc
          have hi2 : i < L.length := by rw [T_size] at hi'; exact hi'
          have RA := R1.of e5 e6
          refine ⟨_, rfl, .inl ⟨rfl, _, .inl (.inl e1)⟩, _, rfl, (by show 4 ≤ sizeLine; decide), fun p hp => ?_⟩
          have sm := same_new hp (.lst [V.str "A", .str "B", .str "", .str "AB"])
          refine ⟨_, rfl, r, a, ns, 4, rfl, RA.stp sm, by decide, by decide, fun k3 H5 h4 h5 s3 R3 => ?_⟩
          have s3' := (Stp.of sm).trans s3
          have hL : SqL K H5 p [V.str "A", .str "B", .str "", .str "AB"] := .inl (.inl (s3 _ _ upd_same (RA.nw hp).symm))
          have f1 := s3'.one e1 nD
          have kt3 := s3'.kt e6
          have ec : c ∈ L := List.mem_of_getElem? hc
          have ok : ∀ so : List Nat, (∀ c ∈ so, 65 ≤ c ∧ c ≤ 90) → so.length ≤ 3 → RuleOk L ⟨[], [c], [], so⟩ := fun so g1 g2 =>
            ⟨List.nil_sublist _, fun d hd => by rw [List.mem_singleton.mp hd]; exact ec, Nat.le_refl _, by show 1 ≤ 2; decide, List.nil_sublist _, g1, g2⟩
          obtain ⟨so, g1, g2, g3⟩ : ∃ so : List Nat, (∀ c ∈ so, 65 ≤ c ∧ c ≤ 90) ∧ so.length ≤ 3 ∧ atI [V.str "A", .str "B", .str "", .str "AB"] k3 = some (V.str (T so)) := by
            have hk : k3 = 0 ∨ k3 = 1 ∨ k3 = 2 ∨ k3 = 3 := by omega
            rcases hk with e | e | e | e
            · exact ⟨[65], by decide, by decide, at_of (j := 0) e (by decide +kernel)⟩
            · exact ⟨[66], by decide, by decide, at_of (j := 1) e (by decide +kernel)⟩
            · exact ⟨[], by decide, by decide, at_of (j := 2) e (by decide +kernel)⟩
            · exact ⟨[65, 66], by decide, by decide, at_of (j := 3) e (by decide +kernel)⟩
          refine ⟨p, _, k3, V.str (T so), rfl, rfl, hL, g3, (by show 4 ≤ sizeLine; decide), fun t ht => ?_⟩
          have f2 := same_new ht (.tup [.str (Str.ofString ""), .str ⟨#[c]⟩, .str (Str.ofString ""), .str (T so)])
          have f3 := f2 _ _ f1
          have kt4 := (kt3.trans (KT.of f2)).trans (kt_upd f3 (o := .lst (ts.map V.ref ++ [.ref t])))
          refine ⟨D, _, _, rfl, rfl, f3, ?_, ts ++ [t], rs ++ [⟨[], [c], [], so⟩], _, rfl, ?_, ?_, ?_, ?_, ((e5.trans s3').trans (Stp.of f2)).put hD _, ?_⟩
          · rw [List.length_map, paired_len e2]
            exact small1000 (by omega)
          · rw [upd_same, List.map_append]
            rfl
          · refine paired_app (paired_mono (fun t ρ h => kt4.1 _ _ h) e2) (.cons ((kt_upd f3).1 _ _ ?_) .nil)
            rw [upd_same, show Str.ofString "" = T [] from nil_eq]
            rfl
          · rw [List.length_append]
            show rs.length + 1 ≤ n + (i + 1)
            omega
          · intro d hd
            rcases List.mem_append.mp hd with h | h
            · exact e4 d h
            · rw [List.mem_singleton.mp h]
              exact ok so g1 g2
          · exact (R3.stp f2).in.upd nD
        · rintro σ H4 ⟨ts, rs, v, rfl, e1, e2, e3, e4, e5, e6⟩
          rw [T_size] at e3
          exact ⟨_, rfl, D, _, rfl, .inl ⟨.inl (.inl e1), fin H4 ts rs e1 e2 e3 e4 e5 e6⟩⟩
      · exact ⟨_, rfl, D, _, rfl, .inl ⟨.inl (.inl e1'), fin H3 ts rs e1' e2' (by omega) e4 e5' R2.in⟩⟩
end
end Say
namespace Say
open PySem PySem.Spec PyProof.Rows L2
section
variable {P : Program} {w : World} {K : PySem.W.Frag} {mg : Str → Option Value} {base : Heap}
abbrev sLetters : Stmt := topS 45
theorem scLetters : FnScope ["_law_row_here"] ["_law_row_here"] (defScope sLetters) := ⟨rfl, rfl, rfl, by decide +kernel, rfl, by decide +kernel, by decide +kernel⟩
def spLetters (K : PySem.W.Frag) : Sp := fun vs H Q _ => ∃ (r a : Addr) (ns : List Int), vs = [.ref r] ∧ RowAt K H r a ns ∧
  ∀ (L : List Nat) (H' : Hp), L ∈ lets → Stp r H H' → RowAt K H' r a ns → Q (.str (T L)) H'
theorem ok_letters {f : Addr} {fd : FuncData} (F : Fun K "_law_letters" "_law_letters" sLetters f fd) (DT : Df P w K mg base "_law_taken" ["_law_row_here", "_law_many"] 1 (spTaken K)) :
    FnOk P w K mg base CX0 2 f fd ["_law_row_here"] (spLetters K) := by
  obtain ⟨fT, fdT, GT, kT, bT, mT⟩ := DT
  refine F.ok scLetters (fun vs H Q E h => ?_) (fun cdv A outer s H vs Q E hr h => ?_)
  · obtain ⟨r, a, ns, rfl, _⟩ := h
    rfl
  · obtain ⟨r, a, ns, rfl, R, q⟩ := h
    refine ⟨_, pss_one (ps_ret (pe_ix ix_list (pe_lst (pa_cons pe_str (pa_cons pe_str (pa_cons pe_str (pa_cons pe_str pa_nil))))) (pe_call GT hr (by rfl) mT kT bT .nil pass0 (pa_cons (pv 0) (pa_cons pe_int pa_nil))) (fun _ _ => rfl))), ?_⟩
    refine ⟨(by show 4 ≤ sizeLine; decide), fun p hp => ?_⟩
    have sm := same_new hp (.lst [V.str "ab", .str "abc", .str "ac", .str "abcd"])
    refine ⟨_, rfl, r, a, ns, 4, rfl, R.stp sm, by decide, by decide, fun k1 H1 h0 h1 s1 R1 => ?_⟩
    have hL : SqL K H1 p [V.str "ab", .str "abc", .str "ac", .str "abcd"] := .inl (.inl (s1 _ _ upd_same (R.nw hp).symm))
    have hk : k1 = 0 ∨ k1 = 1 ∨ k1 = 2 ∨ k1 = 3 := by omega
    rcases hk with e | e | e | e
    · exact ⟨p, _, k1, V.str (T [97, 98]), rfl, rfl, hL, at_of (j := 0) e (by decide +kernel), q _ H1 (by decide) ((Stp.of sm).trans s1) R1⟩
    · exact ⟨p, _, k1, V.str (T [97, 98, 99]), rfl, rfl, hL, at_of (j := 1) e (by decide +kernel), q _ H1 (by decide) ((Stp.of sm).trans s1) R1⟩
    · exact ⟨p, _, k1, V.str (T [97, 99]), rfl, rfl, hL, at_of (j := 2) e (by decide +kernel), q _ H1 (by decide) ((Stp.of sm).trans s1) R1⟩
    · exact ⟨p, _, k1, V.str (T [97, 98, 99, 100]), rfl, rfl, hL, at_of (j := 3) e (by decide +kernel), q _ H1 (by decide) ((Stp.of sm).trans s1) R1⟩
end
end Say
/-! pieces of tuples, tuples joined (as in DFree) -/
namespace Say
open PySem PySem.Spec PyProof.Rows L2
theorem cut_lo (ts : List Addr) (k : Nat) (h : k ≤ ts.length) : cutV (ts.map V.ref) none (some (k : Int)) = (ts.take k).map V.ref := by
  unfold cutV
  rw [HT.sIx_nat]
  show ((ts.map V.ref).drop 0).take (min k (ts.map V.ref).length - 0) = _
  rw [List.drop_zero, Nat.sub_zero, List.length_map, Nat.min_eq_left h, List.map_take]
theorem cut_hi (ts : List Addr) (k : Nat) (h : k ≤ ts.length) : cutV (ts.map V.ref) (some (k : Int)) none = (ts.drop k).map V.ref := by
  unfold cutV
  rw [HT.sIx_nat]
  show ((ts.map V.ref).drop (min k (ts.map V.ref).length)).take ((ts.map V.ref).length - min k (ts.map V.ref).length) = _
  rw [List.length_map, Nat.min_eq_left h, List.take_of_length_le (by rw [List.length_drop, List.length_map]; exact Nat.le_refl _), List.map_drop]
section
variable {X : Cx}
theorem op_catU : OpR X (binaryOp .Add) (fun x y H Q => ∃ a b xs ys, x = .ref a ∧ y = .ref b ∧ H a = some (.tup xs) ∧ H b = some (.tup ys) ∧ xs.length + ys.length ≤ sizeLine ∧ ∀ (p : Addr) (H' : Hp), Same H H' → H' p = some (.tup (xs ++ ys)) → Q (.ref p) H') := by
  intro pins s σ H x y v u Q I rx ry h
  obtain ⟨a, b, xs, ys, e1, e2, ha, hb, hz, q⟩ := h
  refine op_catA pins s σ H x y v u Q I rx ry ⟨a, b, xs, ys, e1, e2, .inl (.inl ha), .inl (.inl hb), hz, fun e => ?_, fun _ e => ?_, fun _ _ p hp => ?_⟩
  · subst e
    exact q b H (Same.refl H) hb
  · subst e
    refine q a H (Same.refl H) ?_
    rw [List.append_nil]
    exact ha
  · exact q p _ (same_new hp _) upd_same
theorem sl_tupU : SlR X (fun x lo hi H Q => ∃ a xs, x = .ref a ∧ H a = some (.tup xs) ∧ ∀ (p : Addr) (H' : Hp), Same H H' → H' p = some (.tup (cutV xs lo hi)) → Q (.ref p) H') := by
  intro pins s σ H x v vl vu lo hi sl Q I rx hs pl pu h
  obtain ⟨a, xs, e, ha, q⟩ := h
  refine sl_tupA pins s σ H x v vl vu lo hi sl Q I rx hs pl pu ⟨a, xs, e, .inl (.inl ha), fun hw => ?_, fun hw p hp => ?_⟩
  · refine q a H (Same.refl H) ?_
    have : cutV xs lo hi = xs := by
      unfold cutV
      rw [hw.1, hw.2, List.drop_zero, Nat.sub_zero, List.take_length]
    rw [this]
    exact ha
  · exact q p _ (same_new hp _) upd_same
end
theorem paired_takeF {α β : Type} {F : α → β → Prop} : ∀ (m : Nat) {l : List α} {k : List β}, Paired F l k → Paired F (l.take m) (k.take m)
  | 0, _, _, _ => .nil
  | _ + 1, _, _, .nil => .nil
  | m + 1, _, _, .cons a t => .cons a (paired_takeF m t)
theorem paired_dropF {α β : Type} {F : α → β → Prop} : ∀ (m : Nat) {l : List α} {k : List β}, Paired F l k → Paired F (l.drop m) (k.drop m)
  | 0, _, _, h => h
  | _ + 1, _, _, .nil => .nil
  | m + 1, _, _, .cons a t => paired_dropF m t
end Say
namespace Say
open PySem PySem.Spec PyProof.Rows L2
section
variable {X : Cx}
/-- tuple(xs) of a list: a tuple as it is made -/
theorem call_tupN : CallR X (.type "tuple") (fun xs H Q => ∃ p ys, xs = [.ref p] ∧ SqL X.K H p ys ∧ ∀ (l : Addr) (o : Obj), o.dict = none → H l = none → Q (.ref l) (upd H l (.frz o (.tup ys)))) := by
  intro pins s σ H xs us Q I r h
  obtain ⟨p, ys, rfl, hq, q⟩ := h
  obtain ⟨u, rfl, rx⟩ := vals1 r
  cases rx
  obtain ⟨its, r', pl, hz⟩ := I.list hq
  have hlen := r'.length
  refine call_tuple_list pl.isList (fun h' kp => ?_) (by simp only [List.size_toArray] <;> omega)
  have I1 : Inv X pins σ H { s with heap := h' } := I.kept (t' := s.toks) kp
  have I2 : Inv X pins σ (upd H h'.objs.size (.frz { cls := .type "tuple", data := .seq its.toArray } (.tup ys))) { s with heap := h'.push { cls := .type "tuple", data := .seq its.toArray } } :=
    I1.laid (t' := s.toks) (fun b o e => Heap.get?_push_of_some _ e) (Nat.le_refl _) (show ObjOk X.prog X.w _ _ _ (.frz _ (.tup ys)) from ⟨Heap.get?_push_size _ rfl, hz, its, r', IsTup.new _ _⟩)
  exact ⟨.ref h'.objs.size, _, I2, rfl, q _ _ rfl (I1.hok.fresh (Nat.le_refl _))⟩
theorem pairs_ofT {pins : List (Addr × Obj)} {σ : L2.St} {H : Hp} {s : Shared} (I : L2.Inv X pins σ H s) : ∀ {ps : List Addr} {kvs : List (Key × V)}, Paired (fun p kv => SqT X.K H p [kV kv.1, kv.2]) ps kvs →
    ∃ (prs : List (Key × Value)) (vs : List (Value × Value)), KV kvs prs ∧ prs.length = ps.length ∧ vs.length = ps.length ∧
      ∀ (j : Nat) (k v : Value), vs[j]? = some (k, v) → ∃ (b : Addr) (q : Key), ps[j]? = some b ∧ prs[j]? = some (q, v) ∧ IsTup s.heap b #[k, v] ∧ keyIs q k = true
  | _, _, .nil => ⟨[], [], .nil, rfl, rfl, fun j k v e => by simp at e⟩
  | _, _, .cons (a := p) (b := kv) h t => by
    obtain ⟨prs, vs, r, hl, hl2, hp⟩ := pairs_ofT I t
    obtain ⟨its, rv, ht, _⟩ := I.tuple h
    obtain ⟨u, y, ei, ru, ry⟩ := vals2 rv
    subst ei
    refine ⟨(kv.1, y) :: prs, (u, y) :: vs, .cons ⟨rfl, ry⟩ r, by rw [List.length_cons, List.length_cons, hl], by rw [List.length_cons, List.length_cons, hl2], fun j k v e => ?_⟩
    cases j with
    | zero =>
      have e' : (u, y) = (k, v) := Option.some.inj e
      cases e'
      exact ⟨p, kv.1, rfl, rfl, ht, kV_is (P := X.prog) (w := X.w) ru⟩
    | succ j =>
      obtain ⟨b, q, e1, e2, e3⟩ := hp j k v (by simpa using e)
      exact ⟨b, q, by simpa using e1, by simpa using e2, e3⟩
/-- a display, as it is made -/
def tTupN (t : TA) : TE := fun σ H Q => t σ H fun xs H1 => xs.length ≤ sizeLine ∧ ∀ (p : Addr) (o : Obj), o.dict = none → H1 p = none → Q (.ref p) (upd H1 p (.frz o (.tup xs)))
theorem pe_tupN {es : List Expr} {t : TA} {pos : Pos} {x1} (h : PA X es t) : PE X (.Tuple es x1 pos) (tTupN t) := by
  refine ⟨fun pins s σ H Q I hq => ?_⟩
  refine wpAny_Tuple_spliced (thn (h.run pos pins s σ H _ I hq) fun us s1 ⟨xs, H1, I1, r, z, q⟩ => ⟨by rw [← r.length]; exact z, ?_⟩)
  have hf : H1 s1.heap.objs.size = none := I1.hok.fresh (Nat.le_refl _)
  exact ⟨.ref s1.heap.objs.size, upd H1 s1.heap.objs.size (.frz _ (.tup xs)), I1.laid (t' := s1.toks) (fun b u e => Heap.get?_push_of_some _ e) (Nat.le_refl _) ⟨Heap.get?_push_size _ rfl, z, us, r, ⟨_, Heap.get?_push_size _ rfl, rfl, _, rfl⟩⟩, rfl, q _ _ rfl hf⟩
/-- dict(ps) of such a tuple of pairs -/
theorem call_dictT (hcalm : X.calm = true) : CallR X (.type "dict") (fun xs H Q => ∃ (a : Addr) (ps : List Addr) (kvs : List (Key × V)), xs = [.ref a] ∧ TupN H a (ps.map V.ref) ∧ Paired (fun p kv => SqT X.K H p [kV kv.1, kv.2]) ps kvs ∧
    ∀ p, H p = none → Q (.ref p) (upd H p (.dK (mergeK [] kvs)))) := by
  intro pins s σ H xs us Q I r q
  obtain ⟨a, ps, kvs, ex, hq, hp, q⟩ := q
  subst ex
  obtain ⟨u, eu, rx⟩ := vals1 r
  subst eu
  cases rx
  obtain ⟨o, hH, hd⟩ := hq
  obtain ⟨ho, hz, its, rv, ⟨o', ho', hc, n, hdat⟩⟩ : s.heap.get? a = some o ∧ (ps.map V.ref).length ≤ sizeLine ∧ ∃ its : List Value, Vals (ps.map V.ref) its ∧ IsTup s.heap a its.toArray := I.hok _ _ hH
  have eo : o' = o := Option.some.inj (ho'.symm.trans ho)
  subst eo
  have ei := refs_at rv
  subst ei
  rw [List.length_map] at hz
  obtain ⟨prs, vs, rel, hl, hl2, hpr⟩ := pairs_ofT I hp
  refine PySem.call_dict_pairs (knd := mixKind X.prog X.w) (kvs := prs) (PySem.PairArg.tuple a (ps.map Value.ref).toArray (fun j => (ps[j]?).getD 0) vs) (I.ok.hd hcalm) ⟨⟨o', n, ho, hc, hd, hdat⟩, by simp [hl2], fun j k v e => ?_⟩ ⟨by rw [hl, hl2], fun j k v e => ?_⟩ (by rw [hl2]; exact hz) fun h' tk hd' k => ?_
  · obtain ⟨b, q', e1, _, e3, _⟩ := hpr j k v e
    refine ⟨by simp [e1], .inl ?_⟩
    show s.heap.IsTuple ((ps[j]?).getD 0) _
    rw [e1]
    exact e3
  · obtain ⟨b, q', e1, e2, _, e4⟩ := hpr j k v e
    exact ⟨q', e2, e4⟩
  · have hm : (s.heap.objs.size == sysModules) = false := beq_eq_false_iff_ne.mpr (Nat.ne_of_gt I.big)
    have hlen : (mergeK [] kvs).length ≤ sizeLine := by
      refine Nat.le_trans (length_mergeK kvs []) ?_
      rw [List.length_nil, Nat.zero_add, rel.length, hl]
      exact hz
    have k' : ∀ b o, s.heap.get? b = some o → h'.get? b = some o := fun b o e => k b o (by simp) e
    exact ⟨.ref s.heap.objs.size, upd H s.heap.objs.size (.dK (mergeK [] kvs)), I.laid (t' := tk) k' (Nat.le_refl _) (show ObjOk X.prog X.w _ _ _ (.dK (mergeK [] kvs)) from ⟨hlen, hm, merged [] prs, KV.merge rel .nil, hd'⟩), rfl, q _ (I.hok.fresh (Nat.le_refl _))⟩
end
end Say
/-! lambdas in more than one def: each def's own code object tells an empty table at the start -/
namespace LamX
open PySem PySem.Spec PyProof.Rows L2
theorem walk_ofOwns {l : PySem.W.OpenLaw} {n k : Nat} {q : Program} {loose : List Str} {XP : (Str → Option Value) → Heap → Prop} {YP : World → Heap → Prop} {d : DefRec} {K : Params → PySem.W.Frag} {CX : World → CXT} {x : Str}
    (few : l.most = some n) (size : n ≤ sizeLine) (plain : d.params.defaults = []) (room : Room k callerA) (ins : ∀ (w : World) (h : Heap), YP w h → (K w.params).In h)
    (F : ∀ (w : World) (mg : Str → Option Value) (fa : Addr) (h : Heap), YP w h → (K w.params).In h → h.Ns mainGlobals mg → mg d.name = some (.ref fa) →
      (∀ (y : Str) (g : Addr), ((recsOf q).any fun e => e.name == y) = true → mg y = some (.ref g) → OwnTab (K w.params) g h) → LawAtS l w (K w.params) (CX w) k n x mg fa h)
    (never : ∀ (w : World) (H : Hp) (s : Shared) (e : Value) (s' : Shared), CX w [] H s (fun _ _ _ => False) e s' → False) :
    PySem.W.WalkO q loose XP YP l.row.toRowW d [] (fun f vs => PySem.call f vs) := by
  refine Att.attach_callB few plain fun w s₀ s₁ mg mb fa o pm cd doc a vs ns G Y ho hd hcd hmg hobj hints hlen hbits hg => ?_
  have inK := ins w _ Y
  obtain ⟨fd, cs, sp, t1, t2, C, hb, hsp, run⟩ := F w mg fa _ Y inK G.T.g hmg fun y g hy hmy c P o1 fd1 e dd vs1 sl k1 k2 k3 k4 k5 => by
    obtain ⟨dL, hm, same⟩ := List.any_eq_true.mp hy
    obtain ⟨a', o', fd', c', P', h1, h2, h3, h4, h5, h6⟩ := G.T.tab dL hm
    rw [beq_iff_eq.mp same, hmy] at h1
    cases h1
    rw [inK _ _ k1] at h2
    cases h2
    rw [k2] at h3
    cases h3
    rw [k3] at h4
    cases h4
    obtain ⟨⟨oc, vc, e1, _, e3, e4⟩, free⟩ := h6
    rw [inK _ _ k4] at e1
    cases e1
    cases e3
    rw [k5] at e4
    cases e4
    exact free
  exact law_callTs inK G.T.g G.T.b G.T.builtins G.T.nolimit hg t1 t2 C G.T.bmain hobj hints (Nat.le_trans hlen size) room run hb (fun H hH hS => hsp H a ns hlen hbits hH hS) fun H e s' => never w H s₁ e s'
end LamX
namespace Say
open PySem PySem.Spec PyProof.Rows L2 L2.DX
theorem KT.extN {H H' : Hp} (e : LamX.ExtN H H') : KT H H' := KT.by fun t u h hu => e t _ h (fun ps z => by rcases hu with ⟨_, rfl⟩ | ⟨_, _, rfl⟩ <;> cases z)
theorem RowAt.extN {K : PySem.W.Frag} {H H' : Hp} {r a : Addr} {ns : List Int} (R : RowAt K H r a ns) (e : LamX.ExtN H H') : RowAt K H' r a ns := by
  obtain ⟨⟨i, c, m, q, b⟩, sc, le⟩ := R
  refine ⟨⟨i, c, m, e _ _ q (fun ps z => by cases z), b⟩, ?_, le⟩
  rcases sc with (sc | ⟨o, sc⟩) | sc
  · exact .inl (.inl (e _ _ sc (fun ps z => by cases z)))
  · exact .inl (.inr ⟨o, e _ _ sc (fun ps z => by cases z)⟩)
  · exact .inr sc
theorem tabs_stp {Tt : List (Addr × Str)} {H H' : Hp} {r a : Addr} (t : LamX.Tabs Tt H) (w : RowIn H r a) (e : Stp r H H') : LamX.Tabs Tt H' := fun p hp => by
  obtain ⟨i, c, m, q, _⟩ := w
  obtain ⟨ps, h1, h2, h3⟩ := t p hp
  refine ⟨ps, e _ _ h1 (ne_of h1 q (by intro z; cases z)), h2, fun pos cv hc => ?_⟩
  obtain ⟨c', e1, e2⟩ := h3 pos cv hc
  exact ⟨c', e1, e _ _ e2 (ne_of e2 q (by intro z; unfold LamX.CodeO at z; cases z))⟩
theorem same_fresh {H H' : Hp} {D : Addr} {o : HO} (e : Same H H') (h : H D = none) : Same H (upd H' D o) := fun b u q => by
  rw [upd_ne (ne_of_none q h)]
  exact e b u q
theorem same_stp {H H' H2 : Hp} {D : Addr} (e : Same H H') (h : H D = none) (s : Stp D H' H2) : Same H H2 := fun b u q => s b u (e b u q) (ne_of_none q h)
def iD (k : Nat) : PyData := .int (k : Nat)
theorem dpI {K : PySem.W.Frag} {H : Hp} : ∀ ks : List Nat, DpAll K H (natsV ks) (ks.map iD)
  | [] => .nil
  | k :: r => .cons (.int _) (dpI r)
theorem ints_lay : ∀ ks : List Nat, PyData.canLayAll0 (ks.map iD) = true ∧ PyData.depthAll (ks.map iD) = 0 ∧ PyData.eqvAll (ks.map iD) (ks.map iD) = true
  | [] => ⟨rfl, rfl, rfl⟩
  | k :: r => by
    obtain ⟨h1, h2, h3⟩ := ints_lay r
    refine ⟨?_, ?_, ?_⟩
    · rw [List.map_cons]
      show (PyData.canLay0 (iD k) && PyData.canLayAll0 (r.map iD)) = true
      rw [h1, Bool.and_true]
      rfl
    · rw [List.map_cons]
      show max (PyData.depth (iD k)) (PyData.depthAll (r.map iD)) = 0
      rw [h2]
      rfl
    · rw [List.map_cons]
      show (PyData.eqv (iD k) (iD k) && PyData.eqvAll (r.map iD) (r.map iD)) = true
      rw [h3, Bool.and_true]
      show (((k : Nat) : Int) == ((k : Nat) : Int)) = true
      simp
theorem ints_shaped (ks : List Nat) : SeqAt.shaped (.list (ks.map iD)) = true := by
  obtain ⟨h1, h2, _⟩ := ints_lay ks
  unfold SeqAt.shaped
  rw [Bool.and_eq_true]
  refine ⟨h1, decide_eq_true ?_⟩
  show PyData.depthAll (ks.map iD) + 1 ≤ 64
  omega
def eD (e : Exc) : PyData := .tuple [.str (T e.1), .str (T e.2)]
theorem dp_samps {K : PySem.W.Frag} {H : Hp} : ∀ {ts : List Addr} {ss : List Exc}, Paired (fun t (e : Exc) => H t = some (.tup [.str (T e.1), .str (T e.2)])) ts ss → DpAll K H (ts.map V.ref) (ss.map eD)
  | _, _, .nil => .nil
  | _, _, .cons h r => .cons (.tup (.inl (.inl h)) (.cons (.str _) (.cons (.str _) .nil))) (dp_samps r)
theorem samps_lay : ∀ ss : List Exc, (∀ e ∈ ss, (∀ c ∈ e.1, c < 1114112) ∧ ∀ c ∈ e.2, c < 1114112) → PyData.canLayAll0 (ss.map eD) = true ∧ PyData.depthAll (ss.map eD) ≤ 1
  | [], _ => ⟨rfl, Nat.zero_le _⟩
  | e :: r, h => by
    obtain ⟨h1, h2⟩ := samps_lay r fun x hx => h x (List.mem_cons_of_mem _ hx)
    obtain ⟨g1, g2⟩ := h e List.mem_cons_self
    refine ⟨?_, ?_⟩
    · rw [List.map_cons]
      show (PyData.canLay0 (eD e) && PyData.canLayAll0 (r.map eD)) = true
      rw [h1, Bool.and_true]
      show (PyData.strOk (T e.1) && (PyData.strOk (T e.2) && true)) = true
      rw [strOk_T g1, strOk_T g2]
      rfl
    · rw [List.map_cons]
      show max (PyData.depth (eD e)) (PyData.depthAll (r.map eD)) ≤ 1
      exact Nat.max_le.mpr ⟨Nat.le_refl _, h2⟩
theorem samps_shaped {ss : List Exc} (h : ∀ e ∈ ss, (∀ c ∈ e.1, c < 1114112) ∧ ∀ c ∈ e.2, c < 1114112) : SeqAt.shaped (.list (ss.map eD)) = true := by
  obtain ⟨h1, h2⟩ := samps_lay ss h
  unfold SeqAt.shaped
  rw [Bool.and_eq_true]
  refine ⟨h1, decide_eq_true ?_⟩
  show PyData.depthAll (ss.map eD) + 1 ≤ 64
  omega
theorem SampsAt.stp {H H' : Hp} {r a S : Addr} {ss : List Exc} (h : SampsAt H S ss) (w : RowIn H r a) (e : Stp r H H') (n : S ≠ r) : SampsAt H' S ss := by
  obtain ⟨ts, h1, h2⟩ := h
  have k := Stp.kt e w
  exact ⟨ts, e _ _ h1 n, paired_mono (fun t ρ q => k.1 _ _ q) h2⟩
/-- the words that rules don't say so -/
def badW (rs : List Rule) (ss : List Exc) (n : Nat) : List (List Nat) := ((ss.take n).filter fun e => !decide (sayW rs e.1 = some e.2)).map (·.1)
theorem badW_len (rs : List Rule) (ss : List Exc) (n : Nat) : (badW rs ss n).length ≤ n := by
  unfold badW
  rw [List.length_map]
  refine Nat.le_trans (List.length_filter_le _ _) ?_
  rw [List.length_take]
  omega
theorem badW_next {rs : List Rule} {ss : List Exc} {n : Nat} {e : Exc} (h : ss[n]? = some e) : badW rs ss (n + 1) = badW rs ss n ++ (if sayW rs e.1 = some e.2 then [] else [e.1]) := by
  unfold badW
  rw [List.take_add_one, h, List.filter_append, List.map_append]
  congr 1
  by_cases c : sayW rs e.1 = some e.2 <;> simp [c]
theorem badW_nil {rs : List Rule} {ss : List Exc} : badW rs ss ss.length = [] ↔ saysAll rs ss = true := by
  unfold badW saysAll
  rw [List.take_length, List.map_eq_nil_iff, List.filter_eq_nil_iff, List.all_eq_true]
  constructor
  · intro h e he
    simpa using h e he
  · intro h e he
    simpa using h e he
theorem badW_mem {rs : List Rule} {ss : List Exc} {n : Nat} {w : List Nat} (h : w ∈ badW rs ss n) : ∃ e ∈ ss, w = e.1 := by
  obtain ⟨e, he, rfl⟩ := List.mem_map.mp h
  exact ⟨e, List.mem_of_mem_take (List.mem_filter.mp he).1, rfl⟩
theorem dp_words {K : PySem.W.Frag} {H : Hp} : ∀ ws : List (List Nat), DpAll K H (ws.map fun w => V.str (T w)) (ws.map fun w => PyData.str (T w))
  | [] => .nil
  | w :: r => .cons (.str _) (dp_words r)
theorem words_lay : ∀ ws : List (List Nat), (∀ w ∈ ws, ∀ c ∈ w, c < 1114112) → PyData.canLayAll0 (ws.map fun w => PyData.str (T w)) = true ∧ PyData.depthAll (ws.map fun w => PyData.str (T w)) = 0
  | [], _ => ⟨rfl, rfl⟩
  | w :: r, h => by
    obtain ⟨h1, h2⟩ := words_lay r fun x hx => h x (List.mem_cons_of_mem _ hx)
    refine ⟨?_, ?_⟩
    · rw [List.map_cons]
      show (PyData.strOk (T w) && PyData.canLayAll0 (r.map fun w => PyData.str (T w))) = true
      rw [h1, strOk_T (h w List.mem_cons_self)]
      rfl
    · rw [List.map_cons]
      show max 0 (PyData.depthAll (r.map fun w => PyData.str (T w))) = 0
      rw [h2]
      rfl
theorem words_shaped {ws : List (List Nat)} (h : ∀ w ∈ ws, ∀ c ∈ w, c < 1114112) : SeqAt.shaped (.list (ws.map fun w => PyData.str (T w))) = true := by
  obtain ⟨h1, h2⟩ := words_lay ws h
  unfold SeqAt.shaped
  rw [Bool.and_eq_true]
  refine ⟨h1, decide_eq_true ?_⟩
  show PyData.depthAll (ws.map fun w => PyData.str (T w)) + 1 ≤ 64
  omega
theorem samps_eqv : ∀ ss : List Exc, PyData.eqvAll (ss.map eD) (ss.map eD) = true
  | [] => rfl
  | e :: r => by
    rw [List.map_cons]
    show (PyData.eqv (eD e) (eD e) && PyData.eqvAll (r.map eD) (r.map eD)) = true
    rw [samps_eqv r, Bool.and_true]
    show ((T e.1 == T e.1) && ((T e.2 == T e.2) && true)) = true
    simp
/-- what the law holds to be due -/
def DueAt (H : Hp) (v : V) : Option (List Nat) → Prop
  | none => v = .non
  | some d => ∃ t, v = .ref t ∧ H t = some (.lst (natsV d))
theorem DueAt.same {H H' : Hp} {v : V} {o : Option (List Nat)} (h : DueAt H v o) (s : Same H H') : DueAt H' v o := by
  cases o with
  | none => exact h
  | some d =>
    obtain ⟨t, h1, h2⟩ := h
    exact ⟨t, h1, s _ _ h2⟩
structure S8 (K : PySem.W.Frag) (Ts : List (Addr × Str)) (r a R S : Addr) (ns : List Int) (rs : List Rule) (ss : List Exc) (H : Hp) : Prop where
  Rw : RowAt K H r a ns
  Tb : LamX.Tabs Ts H
  hR : RulesAt H R rs
  hS : SampsAt H S ss
  nS : S ≠ r
section
variable {K : PySem.W.Frag} {Ts : List (Addr × Str)} {r a R S : Addr} {ns : List Int} {L : List Nat} {rs : List Rule} {ss : List Exc} {H H' : Hp}
theorem S8.same (h : S8 K Ts r a R S ns rs ss H) (s : Same H H') : S8 K Ts r a R S ns rs ss H' := ⟨h.Rw.stp s, h.Tb.ext s, h.hR.kt (.of s), h.hS.same s, h.nS⟩
theorem S8.extN (h : S8 K Ts r a R S ns rs ss H) (s : LamX.ExtN H H') (t : LamX.Tabs Ts H') : S8 K Ts r a R S ns rs ss H' := ⟨h.Rw.extN s, t, h.hR.kt (.extN s), h.hS.extN s, h.nS⟩
theorem S8.stp (h : S8 K Ts r a R S ns rs ss H) (s : Stp r H H') (R' : RowAt K H' r a ns) : S8 K Ts r a R S ns rs ss H' := ⟨R', tabs_stp h.Tb h.Rw.in s, h.hR.kt (h.Rw.kt s), h.hS.stp h.Rw.in s h.nS, h.nS⟩
theorem S8.samps {S' : Addr} {ss' : List Exc} (h : S8 K Ts r a R S ns rs ss H) (g : SampsAt H S' ss') (n : S' ≠ r) : S8 K Ts r a R S' ns rs ss' H := ⟨h.Rw, h.Tb, h.hR, g, n⟩
theorem S8.rowne (h : S8 K Ts r a R S ns rs ss H) (e : H r = none) : False := h.Rw.nw e rfl
theorem ref_inj : ∀ {xs ys : List Addr}, xs.map V.ref = ys.map V.ref → xs = ys
  | [], [], _ => rfl
  | [], _ :: _, h => by cases h
  | _ :: _, [], h => by cases h
  | x :: xs, y :: ys, h => by
    rw [List.map_cons, List.map_cons] at h
    injection h with h1 h2
    rw [V.ref.inj h1, ref_inj h2]
theorem tabs_put {N : Addr} {xs ys : List V} (t : LamX.Tabs Ts H) (hN : H N = some (.lst xs)) : LamX.Tabs Ts (upd H N (.lst ys)) := fun p hp => by
  obtain ⟨ps, a1, a2, a3⟩ := t p hp
  have nN : ∀ {b : Addr} {o : HO}, H b = some o → (∀ l, o ≠ .lst l) → b ≠ N := fun {b o} q n z => by
    rw [z, hN] at q
    cases q
    exact n _ rfl
  refine ⟨ps, by rw [upd_ne (nN a1 (by intro _ z; cases z))]; exact a1, a2, fun pos cv hc => ?_⟩
  obtain ⟨c, e1, e2⟩ := a3 pos cv hc
  exact ⟨c, e1, by rw [upd_ne (nN e2 (by intro _ z; unfold LamX.CodeO at z; cases z))]; exact e2⟩
theorem cut8 (ts : List Addr) : cutV (ts.map V.ref) none (some 8) = (ts.take 8).map V.ref := by
  rcases Nat.lt_or_ge ts.length 8 with c | c
  · unfold cutV
    rw [show (some (8 : Int)) = some ((8 : Nat) : Int) from rfl, HT.sIx_nat]
    show ((ts.map V.ref).drop 0).take (min 8 (ts.map V.ref).length - 0) = _
    rw [List.drop_zero, Nat.sub_zero, List.length_map, Nat.min_eq_right (by omega), List.take_of_length_le (by rw [List.length_map]; exact Nat.le_refl _), List.take_of_length_le (by omega)]
  · exact cut_lo ts 8 c
def TblOnly (H : Hp) (N : Addr) : Prop := ∀ o, H N = some o → ∃ ps, o = .tbl ps
theorem TblOnly.ne {N b : Addr} {o : HO} (n : TblOnly H N) (h : H b = some o) (ho : ∀ ps, o ≠ .tbl ps) : b ≠ N := fun z => by
  rw [z] at h
  obtain ⟨ps, e⟩ := n _ h
  exact ho ps e
theorem TblOnly.off {N : Addr} (n : TblOnly H N) (R : RowAt K H r a ns) : Off K a N ns := by
  obtain ⟨_, sc, _⟩ := R
  rcases sc with (sc | ⟨o, sc⟩) | sc
  · exact .inr (n.ne sc (by intro _ z; cases z))
  · exact .inr (n.ne sc (by intro _ z; cases z))
  · exact .inl fun H' => .inr sc
theorem TblOnly.row {N : Addr} (n : TblOnly H N) (R : RowAt K H r a ns) : r ≠ N := by
  obtain ⟨⟨i', c', m', q', _⟩, _⟩ := R
  exact n.ne q' (by intro _ z; cases z)
/-- a list written that is none of ours -/
theorem S8.updN {N : Addr} {xs ys : List V} (h : S8 K Ts r a R S ns rs ss H) (off : Off K a N ns) (nr : r ≠ N) (nS : S ≠ N) (hN : H N = some (.lst xs)) : S8 K Ts r a R S ns rs ss (upd H N (.lst ys)) := by
  have kN := kt_upd hN (o := .lst ys)
  obtain ⟨ts, h1, h2⟩ := h.hS
  refine ⟨h.Rw.updS nr off, fun p hp => ?_, h.hR.kt kN, ⟨ts, by rw [upd_ne nS]; exact h1, paired_mono (fun t e q => kN.1 _ _ q) h2⟩, h.nS⟩
  obtain ⟨ps, a1, a2, a3⟩ := h.Tb p hp
  have nN : ∀ {b : Addr} {o : HO}, H b = some o → (∀ l, o ≠ .lst l) → b ≠ N := fun {b o} q n z => by
    rw [z, hN] at q
    cases q
    exact n _ rfl
  refine ⟨ps, by rw [upd_ne (nN a1 (by intro _ z; cases z))]; exact a1, a2, fun pos cv hc => ?_⟩
  obtain ⟨c, e1, e2⟩ := a3 pos cv hc
  exact ⟨c, e1, by rw [upd_ne (nN e2 (by intro _ z; unfold LamX.CodeO at z; cases z))]; exact e2⟩
/-- a sample more, in its place -/
theorem S8.put {e : Exc} {x : Addr} {xs : List V} (h : S8 K Ts r a R S ns rs ss H) (off : Off K a S ns) (hx : H x = some (.tup [.str (T e.1), .str (T e.2)])) (hS : H S = some (.lst xs)) : S8 K Ts r a R S ns rs (ss ++ [e]) (upd H S (.lst (xs ++ [.ref x]))) := by
  have kS := kt_upd hS (o := .lst (xs ++ [.ref x]))
  obtain ⟨ts, h1, h2⟩ := h.hS
  rw [hS] at h1
  cases h1
  refine ⟨h.Rw.updS h.nS.symm off, fun p hp => ?_, h.hR.kt kS, ⟨ts ++ [x], by rw [upd_same, List.map_append]; rfl, paired_app (paired_mono (fun t e q => kS.1 _ _ q) h2) (.cons (kS.1 _ _ hx) .nil)⟩, h.nS⟩
  obtain ⟨ps, a1, a2, a3⟩ := h.Tb p hp
  have nS : ∀ {b : Addr} {o : HO}, H b = some o → (∀ l, o ≠ .lst l) → b ≠ S := fun {b o} q n z => by
    rw [z, hS] at q
    cases q
    exact n _ rfl
  refine ⟨ps, by rw [upd_ne (nS a1 (by intro _ z; cases z))]; exact a1, a2, fun pos cv hc => ?_⟩
  obtain ⟨c, e1, e2⟩ := a3 pos cv hc
  exact ⟨c, e1, by rw [upd_ne (nS e2 (by intro _ z; unfold LamX.CodeO at z; cases z))]; exact e2⟩
end
section
variable {X : Cx}
theorem op_ltNL (hu : X.A.units + 66 < cLine) : OpR X (compareOp .Lt) (fun x y H Q => ∃ (i j : Int) (l k : List Nat), Dp X.K H x (.tuple [.int i, .list (l.map iD)]) ∧ Dp X.K H y (.tuple [.int j, .list (k.map iD)]) ∧ Q (.bl (if i = j then ltB l k else decide (i < j))) H) := by
  intro pins s σ H x y v' u' Q I rx ry h
  obtain ⟨i, j, l, k, hx, hy, q⟩ := h
  obtain ⟨as, r1⟩ := Dp.reads I _ x v' hx rx
  obtain ⟨bs, r2⟩ := Dp.reads I _ y u' hy ry
  have em : ∀ l : List Nat, l.map iD = (l.map fun (x : Nat) => (x : Int)).map PySem.W.Datum.toD := fun l => by
    rw [List.map_map]
    rfl
  rw [em] at r1 r2
  refine PySem.W.lt_datum (α := Int × List Int) (x := (i, l.map fun (x : Nat) => (x : Int))) (y := (j, k.map fun (x : Nat) => (x : Int))) ⟨as, r1⟩ ⟨bs, r2⟩ (by show X.A.units + 2 < cLine; omega) ⟨.bl _, H, I, ?_, q⟩
  rw [← listLt_B]
  rfl
end
section
variable {P : Program} {w : World} {K : PySem.W.Frag} {mg : Str → Option Value} {base : Heap}
abbrev sLaw : Stmt := topS 55
abbrev nLaw : List Str := ["_law_script", "_law_row_here", "_law_turn", "_law_letters_here", "_law_rules_here", "_law_some", "_law_samples", "_law_k", "_law_word", "_law_plain", "_law_due", "_law_numbers", "_law_book", "_law_handed", "_law_again", "_law_found", "_law_rule_here", "_law_number", "_law_sounds"]
theorem scLaw : FnScope nLaw ["_law_script"] (defScope sLaw) := ⟨rfl, rfl, rfl, by decide +kernel, rfl, by decide +kernel, by decide +kernel⟩
def spLawT2 (K : PySem.W.Frag) (Pt PT : Addr) : Sp := fun vs H Q _ => ∃ (a : Addr) (ns : List Int), vs = [.ref a] ∧ SqL K H a (ns.map V.int) ∧ ns.length ≤ 63 ∧ H Pt = some (.tbl #[]) ∧ H PT = some (.tbl #[]) ∧ ∀ H', Q (.bl true) H'
abbrev stPass : Stmt := .Pass ⟨0, 0, 0, 0⟩
abbrev stL : Stmt := (defBody sLaw).getD 1 stPass
abbrev bdL : List Stmt := match stL with | .For _ _ b _ _ => b | _ => []
abbrev st5 : Stmt := bdL.getD 5 stPass
abbrev st7 : Stmt := bdL.getD 7 stPass
abbrev stI : Stmt := match st7 with | .For _ _ b _ _ => b.getD 0 stPass | _ => stPass
abbrev bdB : List Stmt := match stI with | .If _ b _ _ => b | _ => []
abbrev st9 : Stmt := bdL.getD 9 stPass
theorem ok_law {f cL Pt PA : Addr} {oc : Value} {od an : Option Addr} {osl : Array (Option Value)} {kV doc pm ct : Value}
    (lk : K.lookup f = some ⟨oc, od, .func (PySem.W.fnOf "law" "law" (defArgs sLaw) (defBody sLaw) (defScope sLaw) .none kV doc pm an (.ref cL) ct), osl⟩) (hcd : PySem.W.codeIn K (.ref cL) "law" = true) (B : Bn mg)
    (DRo : Df P w K mg base "_law_row" ["_law_script"] 1 (spRow K)) (DT : Df P w K mg base "_law_taken" ["_law_row_here", "_law_many"] 1 (spTaken K)) (DLe : Df P w K mg base "_law_letters" ["_law_row_here"] 2 (spLetters K)) (DRu : Df P w K mg base "_law_rules" ["_law_row_here", "_law_letters_here", "_law_most"] 4 (spRules K))
    (DX : Df P w K mg base "_law_text" ["_law_row_here", "_law_signs", "_law_fewest", "_law_many"] 2 (spText K)) (DLS : Df P w K mg base "_law_said" ["_law_book", "_law_word"] 3 spLS) (DSt : Df P w K mg base "_law_sets" ["_law_many"] 1 spSets) (DAl : Df P w K mg base "_law_alike" psAl 2 (spAl K 2))
    (DLe2 : Df P w K mg base "least" ["letters", "rules", "samples"] 10 (spLe [(PA, qAre)])) :
    FnOk P w K mg base CX0 11 f (PySem.W.fnOf "law" "law" (defArgs sLaw) (defBody sLaw) (defScope sLaw) .none kV doc pm an (.ref cL) ct) ["_law_script"] (spLawT2 K Pt PA) := by
  obtain ⟨fRo, fdRo, GRo, kRo, bRo, mRo⟩ := DRo
  obtain ⟨fT, fdT, GT, kT, bT, mT⟩ := DT
  obtain ⟨fLe, fdLe, GLe, kLe, bLe, mLe⟩ := DLe
  obtain ⟨fRu, fdRu, GRu, kRu, bRu, mRu⟩ := DRu
  obtain ⟨fX, fdX, GX, kX, bX, mX⟩ := DX
  obtain ⟨fLS, fdLS, GLS, kLS, bLS, mLS⟩ := DLS
  obtain ⟨fSt, fdSt, GSt, kSt, bSt, mSt⟩ := DSt
  obtain ⟨fAl, fdAl, GAl, kAl, bAl, mAl⟩ := DAl
  obtain ⟨fLe2, fdLe2, GLe2, kLe2, bLe2, mLe2⟩ := DLe2
  refine fn_of lk hcd scLaw (fun vs H Q E h => ?_) (fun A outer s H vs Q E hr h => ?_)
  · obtain ⟨a, ns, rfl, _⟩ := h
    rfl
  · obtain ⟨a, ns, rfl, hSc, hle, hPt, hPA, q⟩ := h
    suffices hh : ∃ t, PSs (cxOf CX0 P w K mg base nLaw "law" (defScope sLaw) f (.ref cL) A outer s H E).nox (defBody sLaw) t ∧ t { nx := fun _ H' => Q .non H', rt := Q } (start nLaw [.ref a]) H by
      obtain ⟨t, h1, h2⟩ := hh
      exact ⟨t, h1.nox, h2⟩
    have hr1 : Room 1 _ := hr.mono (by decide)
    have hr2 : Room 2 _ := hr.mono (by decide)
    have hr3 : Room 3 _ := hr.mono (by decide)
    have hr4 : Room 4 _ := hr.mono (by decide)
    have hr10 : Room 10 _ := hr
    have hrL : (cxOf CX0 P w K mg base nLaw "law" (defScope sLaw) f (.ref cL) A outer s H E).nox.A.units + 66 < cLine := by
      have := hr.un
      show (A.deeper _).units + 66 < cLine
      omega
    -- the samples
    obtain ⟨t5, ps5, q5⟩ : ∃ t5 : TS, PS (cxOf CX0 P w K mg base nLaw "law" (defScope sLaw) f (.ref cL) A outer s H E).nox st5 t5 ∧
        ∀ (D : Ends) (r R S M : Addr) (L : List Nat) (rs sm : List Rule) (v2 v7 v8 v9 v10 v11 v12 v13 v14 v15 v16 v17 v18 : Option V) (H9 : Hp), LetOk L → (∀ ρ ∈ sm, RuleOk L ρ) → sm.length ≤ 8 → S8 K [(PA, qAre)] r a R S ns rs [] H9 → RulesAt H9 M sm → Off K a S ns →
          (∀ (ss : List Exc) (v7 v8 v9 : Option V) (H' : Hp), S8 K [(PA, qAre)] r a R S ns rs ss H' → (∀ e ∈ ss, ExcOk L e) → ss.length ≤ 6 → D.nx [some (.ref a), some (.ref r), v2, some (.str (T L)), some (.ref R), some (.ref M), some (.ref S), v7, v8, v9, v10, v11, v12, v13, v14, v15, v16, v17, v18] H') → t5 D [some (.ref a), some (.ref r), v2, some (.str (T L)), some (.ref R), some (.ref M), some (.ref S), v7, v8, v9, v10, v11, v12, v13, v14, v15, v16, v17, v18] H9 := by
      refine ⟨_, (ps_for PassesOwn.never rfl (pi_range1 (by rfl) B.rng (pa_cons (pe_call GT hr1 (by rfl) mT kT bT .nil pass0 (pa_cons (pv 1) (pa_cons pe_int pa_nil))) pa_nil)) (pg_name (i := 7) scLaw.nd rfl (.inl rfl)) (pss_cons (ps_set (i := 8) scLaw.nd rfl (.inl rfl) (pe_call GX hr2 (by rfl) mX kX bX .nil pass0 (pa_cons (pv 1) (pa_cons (pv 3) (pa_cons pe_int (pa_cons pe_int pa_nil))))))
        (pss_cons (ps_set (i := 9) scLaw.nd rfl (.inl rfl) (pe_call GLS hr3 (by rfl) mLS kLS bLS .nil pass0 (pa_cons (pe_tup (pa_cons (pv 3) (pa_cons (pv 5) (pa_cons (pe_tupN pa_nil) pa_nil)))) (pa_cons (pv 8) pa_nil))))
        (pss_one (ps_if (PW.pt (pw_or (pt_cmpR op_eq (pe_ix ix_tup (pv 9) pe_int (fun _ _ => rfl)) pe_str (nomark _)) (pw_or1 (pt_cmpR op_eq (pe_call GT hr1 (by rfl) mT kT bT .nil pass0 (pa_cons (pv 1) (pa_cons pe_int pa_nil))) pe_int (nomark _))))) (pss_one (ps_expr (pe_bm PySem.F.plainAttrs_list PySem.F.slot_list_append PySem.F.type_list_append mt_append (pv 6) (pa_cons (pe_tup (pa_cons (pv 8) (pa_cons (pe_ifExp (pt_cmpR op_eq (pe_ix ix_tup (pv 9) pe_int (fun _ _ => rfl)) pe_str (nomark _)) (pe_ix ix_tup (pv 9) pe_int (fun _ _ => rfl)) pe_str) pa_nil))) pa_nil)))) pss_nil))))), ?_⟩
      intro D r R S M L rs sm v2 v7 v8 v9 v10 v11 v12 v13 v14 v15 v16 v17 v18 H9 oL ho h8 h0 hM oS qn
      have hrl' : ∀ ρ ∈ sm, RlOk ρ := fun ρ hρ => (ho ρ hρ).rl oL
      have l2 := oL.l2
      have l4 := oL.l4
      refine ⟨_, rfl, r, a, ns, 7, rfl, h0.Rw, by decide, by decide, fun n H1 n0 n1 s1 R1 => ?_⟩
      have h1 := h0.stp s1 R1
      have hM1 := hM.kt (h0.Rw.kt s1)
      refine ⟨n, rfl, by omega, by omega, for_it (walk_range) (fun i σ H' => ∃ (ss : List Exc) (v7 v8 v9 : Option V), σ = [some (.ref a), some (.ref r), v2, some (.str (T L)), some (.ref R), some (.ref M), some (.ref S), v7, v8, v9, v10, v11, v12, v13, v14, v15, v16, v17, v18] ∧ S8 K [(PA, qAre)] r a R S ns rs ss H' ∧ RulesAt H' M sm ∧ (∀ e ∈ ss, ExcOk L e) ∧ ss.length ≤ i)
        ⟨[], _, _, _, rfl, h1, hM1, (fun e he => (nomatch he)), Nat.le_refl _⟩ (fun _ _ _ _ _ => trivial) ?_ ?_⟩
      · rintro i xv σ H2 H2' hi ⟨ss, v7, v8, v9, rfl, h2, hM2, hes, hel⟩ ⟨rfl, rfl⟩
        have hi7 : i < 7 := by omega
        refine ⟨_, rfl, _, rfl, r, a, ns, L, 1, 4, rfl, h2.Rw, by omega, by omega, by decide, by decide, fun wd H3 hw1 hw2 hw3 s3 R3 => ?_⟩
        have h3 := h2.stp s3 R3
        have hM3 := hM2.kt (h2.Rw.kt s3)
        simp only [List.set_cons_succ, List.set_cons_zero]
        refine ⟨_, rfl, _, rfl, (by show 0 ≤ sizeLine; decide), fun X oX hoX hX => ⟨(by show 3 ≤ sizeLine; decide), fun b hb => ?_⟩⟩
        have sX := same_new hX (.frz oX (.tup []))
        have sb := same_new hb (.tup [.str (T L), .ref M, .ref X])
        have sXb := sX.trans sb
        refine ⟨_, rfl, b, L, sm, [], wd, rfl, ⟨M, X, upd_same, hM3.kt (.of sXb), ⟨[], ⟨oX, sb _ _ upd_same, hoX⟩, .nil⟩⟩, hrl', by omega, by omega, fun t H4 s4 ht => ?_⟩
        have h4 := h3.same (sXb.trans s4)
        have hM4 := hM3.kt (.of (sXb.trans s4))
        simp only [List.set_cons_succ, List.set_cons_zero]
        -- a sample is stored
        have fin : ∀ (so : List Nat) (H5 : Hp), (∀ c ∈ so, 65 ≤ c ∧ c ≤ 90) → so.length ≤ 36 → S8 K [(PA, qAre)] r a R S ns rs ss H5 → RulesAt H5 M sm → ∀ (x : Addr), H5 x = none →
            ∃ (acc : List V), (upd H5 x (.tup [.str (T wd), .str (T so)])) S = some (.lst acc) ∧ acc.length < sizeLine ∧
            S8 K [(PA, qAre)] r a R S ns rs (ss ++ [(wd, so)]) (upd (upd H5 x (.tup [.str (T wd), .str (T so)])) S (.lst (acc ++ [.ref x]))) ∧ RulesAt (upd (upd H5 x (.tup [.str (T wd), .str (T so)])) S (.lst (acc ++ [.ref x]))) M sm ∧ (∀ e ∈ ss ++ [(wd, so)], ExcOk L e) ∧ (ss ++ [(wd, so)]).length ≤ i + 1 := by
          intro so H5 g1 g2 h5 hM5 x hx
          obtain ⟨ts, e1, e2⟩ := id h5.hS
          have sx := same_new hx (.tup [.str (T wd), .str (T so)])
          have e1' := sx _ _ e1
          refine ⟨ts.map V.ref, e1', ?_, (h5.same sx).put oS upd_same e1', (hM5.kt (.of sx)).kt (kt_upd e1'), fun e he => ?_, ?_⟩
          · rw [List.length_map, paired_len e2]
            exact small1000 (by omega)
          · rcases List.mem_append.mp he with he | he
            · exact hes e he
            · rw [List.mem_singleton.mp he]
              exact ⟨hw1, hw2, by show wd.length ≤ 8; omega, g1, g2⟩
          · rw [List.length_append]
            exact Nat.succ_le_succ hel
        unfold saidV at ht
        rw [show saidM sm [] wd = sayW sm wd from rfl] at ht
        cases eS : sayW sm wd with
        | some so =>
          rw [eS] at ht
          have ht : H4 t = some (.tup [.str (T []), .str (T so)]) := ht
          obtain ⟨g1, g2⟩ := say_caps ho oL eS
          refine ⟨_, rfl, t, _, 0, .str (T []), rfl, rfl, .inl (.inl ht), atI_nat (j := 0) rfl, rfl, _, rfl, ?_⟩
          rw [dec_nil, decide_eq_true rfl]
          refine iteT ?_
          obtain ⟨ts, hl, hp⟩ := id h4.hS
          refine ⟨_, rfl, .inl ⟨rfl, _, .inl (.inl hl)⟩, _, rfl, ?_⟩
          refine ⟨_, rfl, t, _, 0, .str (T []), rfl, rfl, .inl (.inl ht), atI_nat (j := 0) rfl, rfl, _, rfl, ?_⟩
          rw [dec_nil, decide_eq_true rfl]
          refine iteT ?_
          refine ⟨_, rfl, t, _, 1, .str (T so), rfl, rfl, .inl (.inl ht), atI_nat (j := 1) rfl, ?_⟩
          refine ⟨(by show 2 ≤ sizeLine; decide), fun x hx => ?_⟩
          obtain ⟨acc, f1, f2, f3, f4, f5, f6⟩ := fin so H4 g1 (by omega) h4 hM4 x hx
          exact ⟨S, acc, _, rfl, rfl, f1, f2, _, _, _, _, rfl, f3, f4, f5, f6⟩
        | none =>
          rw [eS] at ht
          have ht : H4 t = some (.tup [.str (Str.ofString "unsaid"), optI (W sm wd).2]) := ht
          refine ⟨_, rfl, t, _, 0, .str (Str.ofString "unsaid"), rfl, rfl, .inl (.inl ht), atI_nat (j := 0) rfl, rfl, _, rfl, ?_⟩
          rw [show decide (V.str (Str.ofString "unsaid") = V.str (Str.ofString "")) = false from by decide +kernel]
          refine iteF ?_
          refine ⟨_, rfl, r, a, ns, 6, rfl, h4.Rw, by decide, by decide, fun k2 H5 g3 g4 s5 R5 => ?_⟩
          have h5 := h4.stp s5 R5
          have hM5 := hM4.kt (h4.Rw.kt s5)
          have ht5 := (h4.Rw.kt s5).1 _ _ ht
          refine ⟨rfl, _, rfl, ite2 (fun c => ?_) (fun c => ?_)⟩
          · obtain ⟨ts, hl, hp⟩ := id h5.hS
            refine ⟨_, rfl, .inl ⟨rfl, _, .inl (.inl hl)⟩, _, rfl, ?_⟩
            refine ⟨_, rfl, t, _, 0, .str (Str.ofString "unsaid"), rfl, rfl, .inl (.inl ht5), atI_nat (j := 0) rfl, rfl, _, rfl, ?_⟩
            rw [show decide (V.str (Str.ofString "unsaid") = V.str (Str.ofString "")) = false from by decide +kernel]
            refine iteF ?_
            refine ⟨(by show 2 ≤ sizeLine; decide), fun x hx => ?_⟩
            obtain ⟨acc, f1, f2, f3, f4, f5, f6⟩ := fin [65] H5 (by decide) (by decide) h5 hM5 x hx
            exact ⟨S, acc, _, rfl, rfl, f1, f2, _, _, _, _, rfl, f3, f4, f5, f6⟩
          · exact ⟨ss, _, _, _, rfl, h5, hM5, hes, Nat.le_succ_of_le hel⟩
      · rintro σ H2 ⟨ss, v7, v8, v9, rfl, h2, hM2, hes, hel⟩
        exact qn ss _ _ _ H2 h2 hes (by omega)
    -- one of the lists is tried
    obtain ⟨tB, psB, qB⟩ : ∃ tB : TS, PSs (cxOf CX0 P w K mg base nLaw "law" (defScope sLaw) f (.ref cL) A outer s H E).nox bdB tB ∧
        ∀ (D : Ends) (r R S t : Addr) (L : List Nat) (rs : List Rule) (ss : List Exc) (l : List Nat) (dv : V) (v2 v5 v7 v8 v9 v12 v13 v14 v15 v16 v17 v18 : Option V) (H9 : Hp), LetOk L → (∀ ρ ∈ rs, RuleOk L ρ) → rs.length ≤ 8 → S8 K [(PA, qAre)] r a R S ns rs ss H9 → (∀ e ∈ ss, ExcOk L e) → ss.length ≤ 6 → CBM.Rise rs.length 0 l → H9 t = some (.lst (natsV l)) →
          (saysAll (pickR rs l) ss = true → ∀ (v8 v12 v18 : Option V) (H' : Hp), Same H9 H' → D.nx [some (.ref a), some (.ref r), v2, some (.str (T L)), some (.ref R), v5, some (.ref S), v7, v8, v9, some (.ref t), some (.ref t), v12, v13, v14, v15, v16, v17, v18] H') → (saysAll (pickR rs l) ss = false → ∀ (v8 v12 v18 : Option V) (H' : Hp), Same H9 H' → D.nx [some (.ref a), some (.ref r), v2, some (.str (T L)), some (.ref R), v5, some (.ref S), v7, v8, v9, some dv, some (.ref t), v12, v13, v14, v15, v16, v17, v18] H') → tB D [some (.ref a), some (.ref r), v2, some (.str (T L)), some (.ref R), v5, some (.ref S), v7, v8, v9, some dv, some (.ref t), v12, v13, v14, v15, v16, v17, v18] H9 := by
      refine ⟨_, pss_cons (ps_set (i := 12) scLaw.nd rfl (.inr rfl) (pe_tup (pa_cons (pv 3) (pa_cons (pe_callTy call_tuple_of (by rfl) B.tup (by decide +kernel) (pa_cons (pe_lc (own := [("_law_number", 17)]) (g := gName 17) (te := tOp (rIxT K) (tVar 4) (tVar 17)) rfl scLaw.nd (pi_list (pv 11)) (blkOk_by (N := nLaw) (sc := defScope sLaw) (by decide +kernel)) (fun _ _ _ _ _ => pg_name (i := 17) scLaw.nd rfl (.inl rfl)) (fun _ _ _ _ _ => pts_nil) (fun _ _ _ _ _ => pe_ix ix_tup (pv 4) (pv 17) (fun _ _ => rfl))) pa_nil)) (pa_cons (pe_tupN pa_nil) pa_nil)))))
      (pss_one (ps_if (pt_cmpR (op_eqD hr.units) (pe_lc (own := [("_law_word", 8), ("_law_sounds", 18)]) (g := gTup K 2 (gCons (gName 8) (gCons (gName 18) gNil))) (te := tVar 8) (tt := tTest (tOp (rNeD K) (tCall spLS [] E0 (tCons (tVar 12) (tCons (tVar 8) tNil))) (tTup (tCons (tC (.str "")) (tCons (tVar 18) tNil))))) rfl scLaw.nd (pi_list (pv 6)) (blkOk_by (N := nLaw) (sc := defScope sLaw) (by decide +kernel)) (fun _ _ _ _ _ => pg_tup (by rfl) (pgs_cons (pg_name (i := 8) scLaw.nd rfl (.inl rfl)) (pgs_cons (pg_name (i := 18) scLaw.nd rfl (.inl rfl)) pgs_nil))) (fun _ _ _ _ _ => pts_one (pt_cmpR (op_neD hr.units) (pe_call GLS hr3 (by rfl) mLS kLS bLS .nil pass0 (pa_cons (pv 12) (pa_cons (pv 8) pa_nil))) (pe_tup (pa_cons pe_str (pa_cons (pv 18) pa_nil))) (nomark _))) (fun _ _ _ _ _ => pv 8)) (pe_lst pa_nil) (nomark _)) (pss_one (ps_set (i := 10) scLaw.nd rfl (.inl rfl) (pv 11))) pss_nil)), ?_⟩
      intro D r R S t L rs ss l dv v2 v5 v7 v8 v9 v12 v13 v14 v15 v16 v17 v18 H9 oL ho h8 h0 hes hel hRl htl q1 q2
      have hkl := rise_mem hRl
      have hll := rise_len hRl
      obtain ⟨rts, hRt, hRp⟩ := id h0.hR
      have hrl : ∀ ρ ∈ rs, RlOk ρ := fun ρ hρ => (ho ρ hρ).rl oL
      refine ⟨_, rfl, _, rfl, t, rfl, ⟨_, .inl (.inl htl)⟩, fun D4 hD4 => ?_⟩
      refine lc_it (walk_list (xs := natsV l)) (fun j H5 => H5 D4 = some (.lst (((l.take j).map fun k => rts.getD k 0).map V.ref)) ∧ Same H9 H5) ?_ (fun j H5 _ h => .inl (.inl (h.2 _ _ htl))) ?_ ?_
      · exact ⟨upd_same, same_new hD4 _⟩
      · rintro j x H5 H6 hj ⟨d1, d2⟩ ⟨rfl, hx⟩
        have hx : (l.map fun k => V.int (k : Nat))[j]? = some x := hx
        rw [List.getElem?_map] at hx
        obtain ⟨k, hk, rfl⟩ := Option.map_eq_some_iff.mp hx
        have hkl2 := hkl k (List.mem_of_getElem? hk)
        have hjl : j < l.length := (List.getElem?_eq_some_iff.mp hk).1
        obtain ⟨x, hx2, hat⟩ := paired_at' hRp (List.getElem?_eq_getElem hkl2)
        refine ⟨rfl, ?_⟩
        refine ⟨_, rfl, _, rfl, R, _, (k : Int), .ref x, rfl, rfl, .inl (.inl (d2 _ _ hRt)), atI_nat (by rw [List.getElem?_map, hx2]; rfl), _, d1, ?_, ?_, ?_⟩
        · rw [List.length_map, List.length_map, List.length_take]
          exact small1000 (by omega)
        · rw [upd_same, List.take_add_one, hk]
          simp only [Option.toList_some, List.map_append, List.map_cons, List.map_nil, List.getD_eq_getElem?_getD, hx2, Option.getD_some]
        · exact fun b u qb => by
            rw [upd_ne (ne_of_none qb hD4)]
            exact d2 b u qb
      rintro H5 ⟨d1, d2⟩
      have nl : (natsV l).length = l.length := by unfold natsV; rw [List.length_map]
      rw [nl, List.take_length] at d1
      refine ⟨D4, _, rfl, .inl ⟨.inl (.inl d1), fun M hM => ⟨(by show 0 ≤ sizeLine; decide), fun X oX hoX hX => ⟨(by show 3 ≤ sizeLine; decide), fun b hb => ?_⟩⟩⟩⟩
      have s6 := same_new hM (.tup ((l.map fun k => rts.getD k 0).map V.ref))
      have s7 := same_new hX (.frz oX (.tup []))
      have s8 := same_new hb (.tup [.str (T L), .ref M, .ref X])
      have s68 := s7.trans s8
      have s98 := d2.trans (s6.trans s68)
      have hM8 : RulesAt (upd (upd (upd H5 M (.tup ((l.map fun k => rts.getD k 0).map V.ref))) X (.frz oX (.tup []))) b (.tup [.str (T L), .ref M, .ref X])) M (pickR rs l) := ⟨_, s68 _ _ upd_same, paired_mono (fun t ρ q => s98 _ _ q) (pick_paired hRp hkl)⟩
      have hB8 : BookAt (upd (upd (upd H5 M (.tup ((l.map fun k => rts.getD k 0).map V.ref))) X (.frz oX (.tup []))) b (.tup [.str (T L), .ref M, .ref X])) b L (pickR rs l) [] := ⟨M, X, upd_same, hM8, ⟨[], ⟨oX, s8 _ _ upd_same, hoX⟩, .nil⟩⟩
      have h8' := h0.same s98
      generalize upd (upd (upd H5 M (.tup ((l.map fun k => rts.getD k 0).map V.ref))) X (.frz oX (.tup []))) b (.tup [.str (T L), .ref M, .ref X]) = H8 at s98 hM8 hB8 h8' ⊢
      simp only [List.set_cons_succ, List.set_cons_zero]
      have hpl : ∀ ρ ∈ pickR rs l, RlOk ρ := pick_ok hkl hrl
      have hpo : ∀ ρ ∈ pickR rs l, RuleOk L ρ := pick_ok hkl ho
      have pl : (pickR rs l).length = l.length := by unfold pickR; rw [List.length_map]
      obtain ⟨ts, hSl, hSp⟩ := id h8'.hS
      refine ⟨_, rfl, S, rfl, ⟨_, .inl (.inl hSl)⟩, fun C hC => ?_⟩
      refine lc_it (walk_list (xs := ts.map V.ref)) (fun j H' => H' C = some (.lst ((badW (pickR rs l) ss j).map fun w => V.str (T w))) ∧ Same H8 H') ?_ (fun j H' _ h => .inl (.inl (h.2 _ _ hSl))) ?_ ?_
      · exact ⟨upd_same, same_new hC _⟩
      · rintro j x H' H'' hj ⟨c1, c2⟩ ⟨rfl, hx⟩
        have hx : (ts.map V.ref)[j]? = some x := hx
        rw [List.getElem?_map] at hx
        obtain ⟨u, hu, rfl⟩ := Option.map_eq_some_iff.mp hx
        obtain ⟨e, he, hat⟩ := paired_at hSp hu
        have hem := List.mem_of_getElem? he
        have oe := hes e hem
        have w8 := oe.w8
        have hjl : j < ss.length := (List.getElem?_eq_some_iff.mp he).1
        refine ⟨u, _, rfl, .inl (.inl (c2 _ _ hat)), rfl, _, _, rfl, _, _, rfl, rfl, ?_⟩
        refine ⟨rfl, ?_⟩
        refine ⟨_, rfl, _, rfl, b, L, pickR rs l, [], e.1, rfl, hB8.kt (.of c2), hpl, by omega, by omega, fun z H1 s1 hz => ?_⟩
        refine ⟨_, rfl, (by show 2 ≤ sizeLine; decide), fun y hy => ?_⟩
        have sy := same_new hy (.tup [.str (Str.ofString ""), .str (T e.2)])
        obtain ⟨d1, d2, p1, p2, p3, p4, p5⟩ := said_cmp (K := K) (sy _ _ hz) (upd_same (H := H1) (a := y) (o := HO.tup [.str (Str.ofString ""), .str (T e.2)]))
          (fun s hs c hc => by have := ((say_caps hpo oL hs).1 c hc).2; omega) (fun c hc => by have := (oe.s c hc).2; omega)
        have s1y := s1.trans sy
        refine ⟨d1, d2, p1, p2, p3, p4, ?_⟩
        rw [p5]
        have et := badW_next (rs := pickR rs l) he
        rw [show saidM (pickR rs l) [] e.1 = sayW (pickR rs l) e.1 from rfl]
        have hC1 := s1y _ _ c1
        refine ⟨_, rfl, ite2 (fun c => ?_) (fun c => ?_)⟩
        · have c : ¬ sayW (pickR rs l) e.1 = some e.2 := by simpa using c
          rw [if_neg c] at et
          refine ⟨_, rfl, _, hC1, ?_, ?_, ?_⟩
          · rw [List.length_map]
            have := badW_len (pickR rs l) ss j
            exact small1000 (by omega)
          · rw [upd_same, et, List.map_append]
            rfl
          · exact fun b o qb => by
              rw [upd_ne (ne_of_none qb hC)]
              exact s1y _ _ (c2 _ _ qb)
        · have c : sayW (pickR rs l) e.1 = some e.2 := by simpa using c
          rw [if_pos c, List.append_nil] at et
          exact ⟨by rw [et]; exact hC1, c2.trans s1y⟩
      rintro H' ⟨c1, c2⟩
      rw [List.length_map, paired_len hSp] at c1
      refine ⟨(by show 0 ≤ sizeLine; decide), fun E1 hE1 => ?_⟩
      have sE := same_new hE1 (.lst [])
      have s9E := s98.trans (c2.trans sE)
      refine ⟨_, _, .lst (.inl (.inl (sE _ _ c1))) (dp_words _), .lst (.inl (.inl upd_same)) .nil, words_shaped (fun w hw => ?_), rfl, _, rfl, ?_⟩
      · obtain ⟨e, he, rfl⟩ := badW_mem hw
        exact fun c hc => by have := oL.az c ((hes e he).w c hc); omega
      · cases hb : badW (pickR rs l) ss ss.length with
        | nil =>
          rw [show PyData.eqv (.list (([] : List (List Nat)).map fun w => PyData.str (T w))) (.list []) = true from rfl]
          refine iteT ?_
          exact ⟨_, rfl, q1 (badW_nil.mp hb) _ _ _ _ s9E⟩
        | cons w wr =>
          rw [show PyData.eqv (.list ((w :: wr).map fun w => PyData.str (T w))) (.list []) = false from rfl]
          refine iteF ?_
          refine q2 (Bool.eq_false_iff.mpr fun z => ?_) _ _ _ _ s9E
          rw [badW_nil.mpr z] at hb
          cases hb
    -- the search
    obtain ⟨t7, ps7, q7⟩ : ∃ t7 : TS, PS (cxOf CX0 P w K mg base nLaw "law" (defScope sLaw) f (.ref cL) A outer s H E).nox st7 t7 ∧
        ∀ (D : Ends) (r R S : Addr) (L : List Nat) (rs : List Rule) (ss : List Exc) (dv : V) (v2 v5 v7 v8 v9 v11 v12 v13 v14 v15 v16 v17 v18 : Option V) (H9 : Hp), LetOk L → (∀ ρ ∈ rs, RuleOk L ρ) → rs.length ≤ 8 → S8 K [(PA, qAre)] r a R S ns rs ss H9 → (∀ e ∈ ss, ExcOk L e) → ss.length ≤ 6 → dv = .non →
          (∀ (o : Option (List Nat)) (dv : V) (v8 v11 v12 v18 : Option V) (H' : Hp), S8 K [(PA, qAre)] r a R S ns rs ss H' → LeastV rs ss o → DueAt H' dv o → D.nx [some (.ref a), some (.ref r), v2, some (.str (T L)), some (.ref R), v5, some (.ref S), v7, v8, v9, some dv, v11, v12, v13, v14, v15, v16, v17, v18] H') → t7 D [some (.ref a), some (.ref r), v2, some (.str (T L)), some (.ref R), v5, some (.ref S), v7, v8, v9, some dv, v11, v12, v13, v14, v15, v16, v17, v18] H9 := by
      refine ⟨_, (ps_for PassesOwn.never rfl (pi_list (pe_call GSt hr1 (by rfl) mSt kSt bSt .nil pass0 (pa_cons (pe_callB call_len (by rfl) B.len PySem.boot_len (pa_cons (pv 4) pa_nil)) pa_nil))) (pg_name (i := 11) scLaw.nd rfl (.inl rfl)) (pss_one (ps_if (PW.pt (pw_or (pt_cmpR op_isN (pv 10) pe_non (nomark _)) (pw_or1 (pt_cmpR (op_ltNL hrL) (pe_tup (pa_cons (pe_callB call_len (by rfl) B.len PySem.boot_len (pa_cons (pv 11) pa_nil)) (pa_cons (pv 11) pa_nil))) (pe_tup (pa_cons (pe_callB call_len (by rfl) B.len PySem.boot_len (pa_cons (pv 10) pa_nil)) (pa_cons (pv 10) pa_nil))) (nomark _))))) psB pss_nil))), ?_⟩
      intro D r R S L rs ss dv v2 v5 v7 v8 v9 v11 v12 v13 v14 v15 v16 v17 v18 H9 oL ho h8 h0 hes hel hdv qn
      subst hdv
      have hrl : ∀ ρ ∈ rs, RlOk ρ := fun ρ hρ => (ho ρ hρ).rl oL
      obtain ⟨rts, hRt, hRp⟩ := id h0.hR
      have lr : (rts.map V.ref).length = rs.length := by rw [List.length_map, paired_len hRp]
      refine ⟨_, rfl, _, _, rfl, .inr ⟨_, .inl (.inl hRt), rfl⟩, rs.length, by rw [lr]; rfl, h8, fun C H1 s1 hC hsets => ?_⟩
      have h1 := h0.same s1
      obtain ⟨sts, hCl, hCp⟩ := id hsets
      refine ⟨C, rfl, ⟨_, .inl (.inl hCl)⟩, for_it (walk_list (xs := sts.map V.ref)) (fun i σ H' => ∃ (o : Option (List Nat)) (dv : V) (v8 v11 v12 v18 : Option V), σ = [some (.ref a), some (.ref r), v2, some (.str (T L)), some (.ref R), v5, some (.ref S), v7, v8, v9, some dv, v11, v12, v13, v14, v15, v16, v17, v18] ∧ S8 K [(PA, qAre)] r a R S ns rs ss H' ∧ Same H1 H' ∧ Due rs ss ((setsM rs.length).take i) o ∧ DueAt H' dv o)
        ⟨none, .non, _, _, _, _, rfl, h1, Same.refl H1, (fun l hl => by simp at hl), rfl⟩ (fun i σ H' _ ⟨_, _, _, _, _, _, _, _, s, _⟩ => .inl (.inl (s _ _ hCl))) ?_ ?_⟩
      · rintro i xv σ H2 H2' hi ⟨o, dv, v8, v11, v12, v18, rfl, h2, s2, hdue, hat⟩ ⟨rfl, hx⟩
        have hx : (sts.map V.ref)[i]? = some xv := hx
        rw [List.getElem?_map] at hx
        obtain ⟨t, ht, rfl⟩ := Option.map_eq_some_iff.mp hx
        obtain ⟨l, hl, hlt⟩ := paired_at hCp ht
        have hlm := List.mem_of_getElem? hl
        have hRl := mem_sets.mp hlm
        have hkl := rise_mem hRl
        have hll := rise_len hRl
        have enext : (setsM rs.length).take (i + 1) = (setsM rs.length).take i ++ [l] := by rw [List.take_add_one, hl]; rfl
        simp only [List.set_cons_succ, List.set_cons_zero]
        have htl := s2 _ _ hlt
        cases o with
        | none =>
          cases (show dv = .non from hat)
          refine ⟨_, rfl, rfl, _, rfl, ?_⟩
          rw [decide_eq_true rfl]
          refine iteT ?_
          exact qB _ r R S t L rs ss l _ _ _ _ _ _ _ _ _ _ _ _ _ H2' oL ho h8 h2 hes hel hRl htl (fun hs v8 v12 v18 H3 s3 => ⟨some l, .ref t, v8, _, v12, v18, rfl, h2.same s3, s2.trans s3, by rw [enext]; exact due_set hdue hs rfl, t, rfl, s3 _ _ htl⟩)
            (fun hs v8 v12 v18 H3 s3 => ⟨none, .non, v8, _, v12, v18, rfl, h2.same s3, s2.trans s3, by rw [enext]; exact due_keep hdue (.inl hs), rfl⟩)
        | some d =>
          obtain ⟨td, rfl, htd⟩ := hat
          refine ⟨_, rfl, rfl, _, rfl, ?_⟩
          rw [show decide (V.ref td = V.non) = false from decide_eq_false (fun z => by cases z)]
          refine iteF ?_
          have ll : (natsV l).length = l.length := by unfold natsV; rw [List.length_map]
          have ld : (natsV d).length = d.length := by unfold natsV; rw [List.length_map]
          refine ⟨_, rfl, _, _, rfl, .inl ⟨_, .inl (.inl htl), rfl⟩, _, rfl, (by show 2 ≤ sizeLine; decide), fun p hp => ?_⟩
          have sp := same_new hp (.tup [.int ((natsV l).length : Nat), .ref t])
          refine ⟨_, rfl, _, _, rfl, .inl ⟨_, .inl (.inl (sp _ _ htd)), rfl⟩, _, rfl, (by show 2 ≤ sizeLine; decide), fun p2 hp2 => ?_⟩
          have sp2 := same_new hp2 (.tup [.int ((natsV d).length : Nat), .ref td])
          have s3 := sp.trans sp2
          have e1 := sp2 _ _ (upd_same (H := H2') (a := p) (o := HO.tup [.int ((natsV l).length : Nat), .ref t]))
          have e2 : (upd (upd H2' p (.tup [.int ((natsV l).length : Nat), .ref t])) p2 (.tup [.int ((natsV d).length : Nat), .ref td])) p2 = some (.tup [.int ((natsV d).length : Nat), .ref td]) := upd_same
          generalize upd (upd H2' p (.tup [.int ((natsV l).length : Nat), .ref t])) p2 (.tup [.int ((natsV d).length : Nat), .ref td]) = H3 at s3 e1 e2 ⊢
          have htl3 := s3 _ _ htl
          have htd3 := s3 _ _ htd
          refine ⟨_, _, l, d, .tup (.inl (.inl e1)) (.cons (.int _) (.cons (.lst (.inl (.inl htl3)) (dpI _)) .nil)), .tup (.inl (.inl e2)) (.cons (.int _) (.cons (.lst (.inl (.inl htd3)) (dpI _)) .nil)), _, rfl, ?_⟩
          rw [ll, ld]
          refine ite2 (fun c => ?_) (fun c => ?_)
          · have c : less l d = true := c
            exact qB _ r R S t L rs ss l _ _ _ _ _ _ _ _ _ _ _ _ _ H3 oL ho h8 (h2.same s3) hes hel hRl htl3 (fun hs v8 v12 v18 H4 s4 => ⟨some l, .ref t, v8, _, v12, v18, rfl, h2.same (s3.trans s4), s2.trans (s3.trans s4), by rw [enext]; exact due_set hdue hs c, t, rfl, s4 _ _ htl3⟩)
              (fun hs v8 v12 v18 H4 s4 => ⟨some d, .ref td, v8, _, v12, v18, rfl, h2.same (s3.trans s4), s2.trans (s3.trans s4), by rw [enext]; exact due_keep hdue (.inl hs), td, rfl, s4 _ _ htd3⟩)
          · have c : less l d = false := Bool.eq_false_iff.mpr c
            exact ⟨some d, .ref td, _, _, _, _, rfl, h2.same s3, s2.trans s3, by rw [enext]; exact due_keep hdue (.inr c), td, rfl, htd3⟩
      · rintro σ H2 ⟨o, dv, v8, v11, v12, v18, rfl, h2, s2, hdue, hat⟩
        rw [List.length_map, paired_len hCp, List.take_length] at hdue
        exact qn o dv _ _ _ _ H2 h2 (due_least hdue) hat
    -- least, twice
    obtain ⟨t9, ps9, q9⟩ : ∃ t9 : TS, PS (cxOf CX0 P w K mg base nLaw "law" (defScope sLaw) f (.ref cL) A outer s H E).nox st9 t9 ∧
        ∀ (D : Ends) (r R S Hd : Addr) (L : List Nat) (rs : List Rule) (ss : List Exc) (o : Option (List Nat)) (dv : V) (v2 v5 v7 v8 v9 v11 v12 v14 v15 v16 v17 v18 : Option V) (H9 : Hp), LetOk L → (∀ ρ ∈ rs, RuleOk L ρ) → rs.length ≤ 8 → S8 K [(PA, qAre)] r a R S ns rs ss H9 → (∀ e ∈ ss, ExcOk L e) → ss.length ≤ 6 → LeastV rs ss o → DueAt H9 dv o → SampsAt H9 Hd ss →
          (∀ (v14 v15 : Option V) (H' : Hp), S8 K [(PA, qAre)] r a R S ns rs ss H' → D.nx [some (.ref a), some (.ref r), v2, some (.str (T L)), some (.ref R), v5, some (.ref S), v7, v8, v9, some dv, v11, v12, some (.ref Hd), v14, v15, v16, v17, v18] H') → t9 D [some (.ref a), some (.ref r), v2, some (.str (T L)), some (.ref R), v5, some (.ref S), v7, v8, v9, some dv, v11, v12, some (.ref Hd), v14, v15, v16, v17, v18] H9 := by
      refine ⟨_, (ps_for PassesOwn.never rfl (pi_range1 (by rfl) B.rng (pa_cons pe_int pa_nil)) (pg_name (i := 14) scLaw.nd rfl (.inl rfl)) (pss_cons (ps_set (i := 15) scLaw.nd rfl (.inl rfl) (pe_call GLe2 hr10 (by rfl) mLe2 kLe2 bLe2 .nil pass0 (pa_cons (pv 3) (pa_cons (pv 4) (pa_cons (pv 13) pa_nil)))))
        (pss_cons (ps_if (PW.pt (pw_or (pt_not (pt_val (pe_call GAl hr2 (by rfl) mAl kAl bAl .nil pass0 (pa_cons (pv 15) (pa_cons (pv 10) pa_nil))))) (pw_or1 (pt_cmpR (op_neD hr.units) (pv 13) (pv 6) (nomark _))))) (pss_one (ps_ret pe_bl)) pss_nil)
        (pss_one (ps_if (pt_cmpR op_notN (pv 15) pe_non (nomark _)) (pss_one (ps_expr (pe_bm PySem.F.plainAttrs_list PySem.F.slot_list_append PySem.F.type_list_append mt_append (pv 15) (pa_cons pe_int pa_nil)))) pss_nil))))), ?_⟩
      intro D r R S Hd L rs ss o dv v2 v5 v7 v8 v9 v11 v12 v14 v15 v16 v17 v18 H9 oL ho h8 h0 hes hel hLv hDu hHd qn
      have sgn : ∀ e ∈ ss, (∀ c ∈ e.1, c < 1114112) ∧ ∀ c ∈ e.2, c < 1114112 := fun e he => ⟨fun c hc => by have := oL.az c ((hes e he).w c hc); omega, fun c hc => by have := (hes e he).s c hc; omega⟩
      refine ⟨2, rfl, by decide, by decide, for_it (walk_range) (fun i σ H' => ∃ (v14 v15 : Option V), σ = [some (.ref a), some (.ref r), v2, some (.str (T L)), some (.ref R), v5, some (.ref S), v7, v8, v9, some dv, v11, v12, some (.ref Hd), v14, v15, v16, v17, v18] ∧ S8 K [(PA, qAre)] r a R S ns rs ss H' ∧ DueAt H' dv o ∧ SampsAt H' Hd ss) ⟨_, _, rfl, h0, hDu, hHd⟩ (fun _ _ _ _ _ => trivial) ?_ ?_⟩
      · rintro i xv σ H2 H2' hi ⟨v14, v15, rfl, h2, hD2, hd2⟩ ⟨rfl, rfl⟩
        simp only [List.set_cons_succ, List.set_cons_zero]
        refine ⟨_, rfl, _, rfl, _, rfl, L, R, Hd, rs, ss, rfl, oL, h2.hR, ho, by omega, hd2, hes, by omega, h2.Tb, fun o2 v H3 e3 T3 hv hat => ?_⟩
        have eo := least_one hLv hv
        subst eo
        have h3 := h2.extN e3 T3
        have hd3 := hd2.extN e3
        obtain ⟨ts, hSl, hSp⟩ := id h3.hS
        obtain ⟨us, hUl, hUp⟩ := id hd3
        simp only [List.set_cons_succ, List.set_cons_zero]
        -- behind the comparing
        cases o with
        | none =>
          cases (show v = .non from hat)
          cases (show dv = .non from hD2)
          refine ⟨_, rfl, _, rfl, _, _, .none, rfl, .non, .non, .non, by decide, fun H4 s4 => ⟨true, rfl, iteF ?_⟩⟩
          have h4 := h3.same s4
          refine ⟨_, rfl, _, rfl, _, _, .lst (.inl (.inl (s4 _ _ hUl))) (dp_samps (paired_mono (fun t e q => s4 _ _ q) hUp)), .lst (.inl (.inl (s4 _ _ hSl))) (dp_samps (paired_mono (fun t e q => s4 _ _ q) hSp)), samps_shaped sgn, samps_shaped sgn, _, rfl, ?_⟩
          rw [show PyData.eqv (.list (ss.map eD)) (.list (ss.map eD)) = true from samps_eqv ss]
          refine iteF ?_
          refine ⟨_, rfl, rfl, _, rfl, ?_⟩
          rw [decide_eq_true rfl]
          refine iteF ?_
          exact ⟨_, _, rfl, h4, rfl, hd3.same s4⟩
        | some l =>
          obtain ⟨N, rfl, nN, hN⟩ := hat
          obtain ⟨td, rfl, htd⟩ := hD2
          have ntd : td ≠ N := TblOnly.ne nN htd (by intro _ z; cases z)
          have htd3 := e3 _ _ htd (by intro _ z; cases z)
          have hll := rise_len hLv.1
          refine ⟨_, rfl, _, rfl, _, _, _, rfl, dp_nats hN, dp_nats htd3, few_nats (by omega), (by show PyData.depthAll _ + 1 < 2; rw [depth_nats]; decide), fun H4 s4 => ⟨true, rfl, iteF ?_⟩⟩
          have h4 := h3.same s4
          have hN4 := s4 _ _ hN
          refine ⟨_, rfl, _, rfl, _, _, .lst (.inl (.inl (s4 _ _ hUl))) (dp_samps (paired_mono (fun t e q => s4 _ _ q) hUp)), .lst (.inl (.inl (s4 _ _ hSl))) (dp_samps (paired_mono (fun t e q => s4 _ _ q) hSp)), samps_shaped sgn, samps_shaped sgn, _, rfl, ?_⟩
          rw [show PyData.eqv (.list (ss.map eD)) (.list (ss.map eD)) = true from samps_eqv ss]
          refine iteF ?_
          refine ⟨_, rfl, rfl, _, rfl, ?_⟩
          rw [show decide (V.ref N = V.non) = false from decide_eq_false (fun z => by cases z)]
          refine iteT ?_
          obtain ⟨ts2, hSl2, _⟩ := id h2.hS
          obtain ⟨us2, hUl2, _⟩ := id hd2
          have nSN : S ≠ N := TblOnly.ne nN hSl2 (by intro _ z; cases z)
          have nUN : Hd ≠ N := TblOnly.ne nN hUl2 (by intro _ z; cases z)
          refine ⟨_, rfl, .inl ⟨rfl, _, .inl (.inl hN4)⟩, N, _, _, rfl, rfl, hN4, ?_, ?_⟩
          · unfold natsV
            rw [List.length_map]
            exact small1000 (by omega)
          · have kN := kt_upd hN4 (o := .lst (natsV l ++ [.int 0]))
            refine ⟨_, _, rfl, h4.updN (TblOnly.off nN h2.Rw) (TblOnly.row nN h2.Rw) nSN hN4, ⟨td, rfl, by rw [upd_ne ntd]; exact s4 _ _ htd3⟩, us, by rw [upd_ne nUN]; exact s4 _ _ hUl, paired_mono (fun t e q => kN.1 _ _ (s4 _ _ q)) hUp⟩
      · rintro σ H2 ⟨v14, v15, rfl, h2, _, _⟩
        exact qn _ _ H2 h2
    -- the rest of a turn, behind the rules
    obtain ⟨tR, psR, qR⟩ : ∃ tR : TS, PSs (cxOf CX0 P w K mg base nLaw "law" (defScope sLaw) f (.ref cL) A outer s H E).nox (bdL.drop 3) tR ∧
        ∀ (D : Ends) (r R : Addr) (L : List Nat) (rs : List Rule) (v2 v5 v6 v7 v8 v9 v10 v11 v12 v13 v14 v15 v16 v17 v18 : Option V) (H9 : Hp), LetOk L → (∀ ρ ∈ rs, RuleOk L ρ) → rs.length ≤ 8 → RowAt K H9 r a ns → LamX.Tabs [(PA, qAre)] H9 → RulesAt H9 R rs →
          (∀ (v3 v4 v5 v6 v7 v8 v9 v10 v11 v12 v13 v14 v15 v16 v17 v18 : Option V) (H' : Hp), RowAt K H' r a ns → LamX.Tabs [(PA, qAre)] H' → D.nx [some (.ref a), some (.ref r), v2, v3, v4, v5, v6, v7, v8, v9, v10, v11, v12, v13, v14, v15, v16, v17, v18] H') →
          tR D [some (.ref a), some (.ref r), v2, some (.str (T L)), some (.ref R), v5, v6, v7, v8, v9, v10, v11, v12, v13, v14, v15, v16, v17, v18] H9 := by
      refine ⟨_, pss_cons (ps_set (i := 5) scLaw.nd rfl (.inl rfl) (pe_callTy call_tuple_of (by rfl) B.tup (by decide +kernel) (pa_cons (pe_lc (own := [("_law_rule_here", 16)]) (g := gName 16) (te := tVar 16) (tt := tTest (tOp (rI0 fun i j => .bl (decide (i > j))) (tCall (spTaken K) [] E0 (tCons (tVar 1) (tCons (tC (.int 4)) tNil))) (tC (.int 0)))) rfl scLaw.nd (pi_tup (pv 4)) (blkOk_by (N := nLaw) (sc := defScope sLaw) (by decide +kernel)) (fun _ _ _ _ _ => pg_name (i := 16) scLaw.nd rfl (.inl rfl)) (fun _ _ _ _ _ => pts_one (pt_cmpR op_gt (pe_call GT hr1 (by rfl) mT kT bT .nil pass0 (pa_cons (pv 1) (pa_cons pe_int pa_nil))) pe_int (nomark _))) (fun _ _ _ _ _ => pv 16)) pa_nil))) (pss_cons (ps_set (i := 6) scLaw.nd rfl (.inl rfl) (pe_lst pa_nil)) (pss_cons ps5 (pss_cons (ps_set (i := 10) scLaw.nd rfl (.inl rfl) pe_non) (pss_cons ps7 (pss_cons (ps_set (i := 13) scLaw.nd rfl (.inl rfl) (pe_callTy call_list_of (by rfl) B.lst (by decide +kernel) (pa_cons (pv 6) pa_nil))) (pss_one ps9)))))), ?_⟩
      intro D r R L rs v2 v5 v6 v7 v8 v9 v10 v11 v12 v13 v14 v15 v16 v17 v18 H9 oL ho h8 R9 T9 hR qn
      obtain ⟨rts, hRt, hRp⟩ := id hR
      -- some of the rules
      refine ⟨_, rfl, R, rfl, ⟨_, .inl (.inl hRt)⟩, fun C hC => ?_⟩
      have nC := R9.nw hC
      have oC := R9.off hC
      refine lc_it (walk_tup (xs := rts.map V.ref)) (fun j H' => ∃ (us : List Addr) (sm : List Rule), H' C = some (.lst (us.map V.ref)) ∧ Paired (fun t ρ => H' t = some (.tup (Rule.vs ρ))) us sm ∧ (∀ ρ ∈ sm, ρ ∈ rs) ∧ sm.length ≤ j ∧ RowAt K H' r a ns ∧ LamX.Tabs [(PA, qAre)] H' ∧ RulesAt H' R rs ∧ H' R = some (.tup (rts.map V.ref))) ?_ (fun j H' _ ⟨_, _, _, _, _, _, _, _, _, g⟩ => .inl (.inl g)) ?_ ?_
      · have sC := same_new hC (.lst [])
        exact ⟨[], [], upd_same, .nil, (fun ρ h => (nomatch h)), Nat.le_refl _, R9.stp sC, T9.ext sC, hR.kt (.of sC), sC _ _ hRt⟩
      · rintro j x H1 H1' hj ⟨us, sm, u1, u2, u3, u4, R1, T1, hR1, hRt1⟩ ⟨rfl, hx⟩
        have hx : (rts.map V.ref)[j]? = some x := hx
        rw [List.getElem?_map] at hx
        obtain ⟨t, ht, rfl⟩ := Option.map_eq_some_iff.mp hx
        have hjl : j < rs.length := by
          have := (List.getElem?_eq_some_iff.mp ht).1
          rwa [paired_len hRp] at this
        refine ⟨rfl, ?_⟩
        refine ⟨_, rfl, r, a, ns, 4, rfl, R1, by decide, by decide, fun k H2 k0 k1 s2 R2 => ?_⟩
        have k2 := R1.kt s2
        have u1' := s2 _ _ u1 nC.symm
        obtain ⟨rts1, g1, g2⟩ := id (hR1.kt k2)
        have hRt2 := k2.1 _ _ hRt1
        have ert : rts1 = rts := by
          rw [hRt2] at g1
          have := HO.tup.inj (Option.some.inj g1)
          exact (ref_inj this).symm
        subst ert
        obtain ⟨ρ, hρ, hat⟩ := paired_at g2 ht
        have T2 := tabs_stp T1 R1.in s2
        refine ⟨_, _, rfl, rfl, _, rfl, ite2 (fun c => ?_) (fun c => ?_)⟩
        · have kC := kt_upd u1' (o := .lst (us.map V.ref ++ [.ref t]))
          refine ⟨_, rfl, _, u1', ?_, us ++ [t], sm ++ [ρ], by rw [upd_same, List.map_append]; rfl, paired_app (paired_mono (fun t ρ q => kC.1 _ _ (k2.1 _ _ q)) u2) (.cons (kC.1 _ _ hat) .nil), fun ρ' h => ?_, by rw [List.length_append]; exact Nat.succ_le_succ u4, R2.updS nC oC, tabs_put T2 u1', (hR1.kt k2).kt kC, kC.1 _ _ hRt2⟩
          · rw [List.length_map, paired_len u2]
            exact small1000 (by omega)
          · rcases List.mem_append.mp h with h | h
            · exact u3 _ h
            · rw [List.mem_singleton.mp h]
              exact List.mem_of_getElem? hρ
        · exact ⟨us, sm, u1', paired_mono (fun t ρ q => k2.1 _ _ q) u2, u3, Nat.le_succ_of_le u4, R2, T2, hR1.kt k2, hRt2⟩
      rintro H1 ⟨us, sm, u1, u2, u3, u4, R1, T1, hR1, hRt1⟩
      rw [List.length_map, paired_len hRp] at u4
      refine ⟨C, _, rfl, .inl ⟨.inl (.inl u1), fun M hM => ⟨(by show 0 ≤ sizeLine; decide), fun S hSn => ?_⟩⟩⟩
      have sM := same_new hM (.tup (us.map V.ref))
      have sS := same_new hSn (.lst [])
      have sMS := sM.trans sS
      have hM2 : RulesAt (upd (upd H1 M (.tup (us.map V.ref))) S (.lst [])) M sm := ⟨us, sS _ _ upd_same, paired_mono (fun t ρ q => sMS _ _ q) u2⟩
      have R1M := R1.stp sM
      have oS := R1M.off hSn
      have h2 : S8 K [(PA, qAre)] r a R S ns rs [] (upd (upd H1 M (.tup (us.map V.ref))) S (.lst [])) := ⟨R1.stp sMS, T1.ext sMS, hR1.kt (.of sMS), ⟨[], upd_same, .nil⟩, fun z => R1M.nw hSn z.symm⟩
      generalize upd (upd H1 M (.tup (us.map V.ref))) S (.lst []) = H2 at hM2 h2 ⊢
      simp only [List.set_cons_succ, List.set_cons_zero]
      refine q5 _ r R S M L rs sm _ _ _ _ _ _ _ _ _ _ _ _ _ H2 oL (fun ρ h => ho ρ (u3 ρ h)) (by omega) h2 hM2 oS fun ss v7 v8 v9 H3 h3 hes hel => ?_
      simp only [List.set_cons_succ, List.set_cons_zero]
      refine q7 _ r R S L rs ss .non _ _ _ _ _ _ _ _ _ _ _ _ _ H3 oL ho h8 h3 hes hel rfl fun o dv v8 v11 v12 v18 H4 h4 hLv hDu => ?_
      obtain ⟨ts, hSl, hSp⟩ := id h4.hS
      refine ⟨_, rfl, S, _, rfl, .inl (.inl (.inl hSl)), fun Hd hHd => ?_⟩
      have s5 := same_new hHd (.lst (ts.map V.ref))
      have hd5 : SampsAt (upd H4 Hd (.lst (ts.map V.ref))) Hd ss := ⟨ts, upd_same, paired_mono (fun t e q => s5 _ _ q) hSp⟩
      have h5 := h4.same s5
      have hDu5 := hDu.same s5
      generalize upd H4 Hd (.lst (ts.map V.ref)) = H5 at hd5 h5 hDu5 ⊢
      simp only [List.set_cons_succ, List.set_cons_zero]
      exact q9 _ r R S Hd L rs ss o dv _ _ _ _ _ _ _ _ _ _ _ _ H5 oL ho h8 h5 hes hel hLv hDu5 hd5 fun v14 v15 H6 h6 => qn _ _ _ _ _ _ _ _ _ _ _ _ _ _ _ _ H6 h6.Rw h6.Tb
    -- the turns
    refine ⟨_, pss_cons (ps_set (i := 1) scLaw.nd rfl (.inr rfl) (pe_call GRo hr1 (by rfl) mRo kRo bRo .nil pass0 (pa_cons (pv 0) pa_nil)))
      (pss_cons (ps_for PassesOwn.never rfl (pi_range1 (by rfl) B.rng (pa_cons pe_int pa_nil)) (pg_name (i := 2) scLaw.nd rfl (.inl rfl)) (pss_cons (ps_set (i := 3) scLaw.nd rfl (.inl rfl) (pe_call GLe hr2 (by rfl) mLe kLe bLe .nil pass0 (pa_cons (pv 1) pa_nil))) (pss_cons (ps_set (i := 4) scLaw.nd rfl (.inr rfl) (pe_call GRu hr4 (by rfl) mRu kRu bRu .nil pass0 (pa_cons (pv 1) (pa_cons (pv 3) (pa_cons pe_int pa_nil))))) (pss_cons (ps_if (pt_cmpR op_eq (pe_call GT hr1 (by rfl) mT kT bT .nil pass0 (pa_cons (pv 1) (pa_cons pe_int pa_nil))) pe_int (nomark _)) (pss_one (ps_set (i := 4) scLaw.nd rfl (.inr rfl) (pe_slice sl_tupU (pe_op op_catU (pv 4) (pv 4)) po_none (po_some pe_int)))) pss_nil) psR))))
      (pss_one (ps_ret pe_bl))), ?_⟩
    refine ⟨_, rfl, a, ns, rfl, hSc, hle, fun r H1 hr0 s1 R1 => ?_⟩
    have T0 : LamX.Tabs [(PA, qAre)] H := fun p hp => by
      rw [List.mem_singleton.mp hp]
      exact LamX.TabS.nil hPA
    have T1 := T0.ext s1
    refine ⟨3, rfl, by decide, by decide, for_it (walk_range) (fun i σ H2 => RowAt K H2 r a ns ∧ LamX.Tabs [(PA, qAre)] H2 ∧ ∃ v2 v3 v4 v5 v6 v7 v8 v9 v10 v11 v12 v13 v14 v15 v16 v17 v18, σ = [some (.ref a), some (.ref r), v2, v3, v4, v5, v6, v7, v8, v9, v10, v11, v12, v13, v14, v15, v16, v17, v18])
      ⟨R1, T1, _, _, _, _, _, _, _, _, _, _, _, _, _, _, _, _, _, rfl⟩ (fun _ _ _ _ _ => trivial) ?_ ?_⟩
    · rintro i x σ H2 H2' hi ⟨R2, T2, v2, v3, v4, v5, v6, v7, v8, v9, v10, v11, v12, v13, v14, v15, v16, v17, v18, rfl⟩ ⟨rfl, rfl⟩
      refine ⟨_, rfl, r, a, ns, rfl, R2, fun L H3 hL s3 R3 => ?_⟩
      have oL := lets_ok hL
      have l2 := oL.l2
      have l4 := oL.l4
      have T3 := tabs_stp T2 R2.in s3
      refine ⟨_, rfl, _, rfl, r, a, ns, L, 4, rfl, R3, by omega, by omega, by decide, fun rs R H4 ho hlen hR s4 R4 => ?_⟩
      have T4 := tabs_stp T3 R3.in s4
      simp only [List.set_cons_succ, List.set_cons_zero]
      refine ⟨_, rfl, r, a, ns, 4, rfl, R4, by decide, by decide, fun k H5 k0 k1 s5 R5 => ?_⟩
      have T5 := tabs_stp T4 R4.in s5
      have hR5 := hR.kt (R4.kt s5)
      refine ⟨rfl, _, rfl, ite2 (fun c => ?_) (fun c => ?_)⟩
      · obtain ⟨rts, hRt, hRp⟩ := id hR5
        have lr := paired_len hRp
        refine ⟨_, rfl, _, rfl, R, R, _, _, rfl, rfl, hRt, hRt, (by rw [List.length_map]; exact small (by omega)), fun p H6 s6 g6 => ?_⟩
        refine ⟨_, rfl, p, _, rfl, g6, fun p2 H7 s7 g7 => ?_⟩
        rw [← List.map_append, cut8] at g7
        have s57 := s6.trans s7
        have hO : RulesAt H7 p2 ((rs ++ rs).take 8) := ⟨(rts ++ rts).take 8, g7, paired_takeF 8 (paired_mono (fun t ρ q => s57 _ _ q) (paired_app hRp hRp))⟩
        simp only [List.set_cons_succ, List.set_cons_zero]
        exact qR _ r p2 L ((rs ++ rs).take 8) _ _ _ _ _ _ _ _ _ _ _ _ _ _ _ H7 oL (fun ρ h => by
          rcases List.mem_append.mp (List.mem_of_mem_take h) with h | h
          · exact ho ρ h
          · exact ho ρ h) (by rw [List.length_take]; omega) (R5.stp s57) (T5.ext s57) hO fun v3 v4 v5 v6 v7 v8 v9 v10 v11 v12 v13 v14 v15 v16 v17 v18 H7 R7 T7 => ⟨R7, T7, _, _, _, _, _, _, _, _, _, _, _, _, _, _, _, _, _, rfl⟩
      · exact qR _ r R L rs _ _ _ _ _ _ _ _ _ _ _ _ _ _ _ H5 oL ho (by omega) R5 T5 hR5 fun v3 v4 v5 v6 v7 v8 v9 v10 v11 v12 v13 v14 v15 v16 v17 v18 H7 R7 T7 => ⟨R7, T7, _, _, _, _, _, _, _, _, _, _, _, _, _, _, _, _, _, rfl⟩
    · rintro σ H2 ⟨R2, T2, v2, v3, v4, v5, v6, v7, v8, v9, v10, v11, v12, v13, v14, v15, v16, v17, v18, rfl⟩
      exact q _
end
end Say
namespace Say
open PySem PySem.Spec PyProof.Rows L2
/-- a def as the top has left it -/
structure Std (K : PySem.W.Frag) (x : Str) (st : Stmt) (f : Addr) : Prop where
  ns : PySem.W.nsIn K mainGlobals x = some (some (.ref f))
  fn : ∃ fd, Fun K x x st f fd ∧ ∃ kV dc pm an cd ct, fd = PySem.W.fnOf x x (defArgs st) (defBody st) (defScope st) .none kV dc pm an cd ct
theorem std_mk {K : PySem.W.Frag} {x : Str} {st : Stmt} {f : Addr} {oc : Value} {od an : Option Addr} {osl : Array (Option Value)} {kV dc pm cd ct : Value} (a : PySem.W.nsIn K mainGlobals x = some (some (.ref f))) (l : K.lookup f = some ⟨oc, od, .func (PySem.W.fnOf x x (defArgs st) (defBody st) (defScope st) .none kV dc pm an cd ct), osl⟩) (c : PySem.W.codeIn K cd x = true) (k : PySem.W.keepIn K (.ref f) = true) : Std K x st f :=
  ⟨a, _, fun_mk l c k, kV, dc, pm, an, cd, ct, rfl⟩
theorem all_ok {l : PySem.W.OpenLaw} {w : World} {K : PySem.W.Frag} {h : Heap} {mg : Str → Option Value} {fa f22 f23 f18 f17 f20 f21 f19 f15 f16 f27 f28 f29 f33 f34 f30 f31 f32 f41 f39 f38 f37 f43 f44 f45 f46 f47 f48 f49 f50 f51 f52 f53 f54 f55 f40 Pt cL Pth0_ cLh0_ : Addr} {t_small t_caps t_edge t_mrul t_lexc t_lrs t_lso t_iown t_isounds t_imost_samples : Tok} {lt18 lt7 lt10 : Tok} {li7 li10 : Int} {lb9 : Bool} {lf18 : Str} {cddL odL anL : Option Addr} {oL kVL dcL pmL ctL : Value} {cslL slL : Array (Option Value)} {vsL : Array Value} {lt18h0_ lt7h0_ lt10h0_ : Tok} {li7h0_ li10h0_ : Int} {lb9h0_ : Bool} {lf18h0_ : Str} {cddLh0_ odLh0_ anLh0_ : Option Addr} {oLh0_ kVLh0_ dcLh0_ pmLh0_ ctLh0_ : Value} {cslLh0_ slLh0_ : Array (Option Value)} {vsLh0_ : Array Value}
    (X : K.In h) (G : h.Ns mainGlobals mg) (hfa : mg "law" = some (.ref fa)) (OT : LamX.OwnTab K fa h) (OT0 : ∀ g : Addr, mg "are_said" = some (.ref g) → LamX.OwnTab K g h)
    (S22 : Std K "is_text" (topS 22) f22)
    (S23 : Std K "is_rising" (topS 23) f23)
    (S18 : Std K "is_beside" (topS 18) f18)
    (S17 : Std K "is_rule" (topS 17) f17)
    (S20 : Std K "is_excepted" (topS 20) f20)
    (S21 : Std K "is_sounds" (topS 21) f21)
    (S19 : Std K "is_exception" (topS 19) f19)
    (S15 : Std K "check_letters" (topS 15) f15)
    (S16 : Std K "check_rules" (topS 16) f16)
    (S27 : Std K "fits" (topS 27) f27)
    (S28 : Std K "first_fit" (topS 28) f28)
    (S29 : Std K "steps_of" (topS 29) f29)
    (S33 : Std K "numbers_of" (topS 33) f33)
    (S34 : Std K "sounds_of" (topS 34) f34)
    (S30 : Std K "ending" (topS 30) f30)
    (S31 : Std K "ending_sounds" (topS 31) f31)
    (S32 : Std K "word_sounds" (topS 32) f32)
    (S41 : Std K "is_said" (topS 41) f41)
    (S39 : Std K "check_samples" (topS 39) f39)
    (S38 : Std K "check_all" (topS 38) f38)
    (S37 : Std K "least" (topS 37) f37)
    (S43 : Std K "_law_row" (topS 43) f43)
    (S44 : Std K "_law_taken" (topS 44) f44)
    (S45 : Std K "_law_letters" (topS 45) f45)
    (S46 : Std K "_law_side" (topS 46) f46)
    (S47 : Std K "_law_text" (topS 47) f47)
    (S48 : Std K "_law_rule" (topS 48) f48)
    (S49 : Std K "_law_rules" (topS 49) f49)
    (S50 : Std K "_law_fits" (topS 50) f50)
    (S51 : Std K "_law_walk" (topS 51) f51)
    (S52 : Std K "_law_said" (topS 52) f52)
    (S53 : Std K "_law_sets" (topS 53) f53)
    (S54 : Std K "_law_alike" (topS 54) f54)
    (a_law : PySem.W.nsIn K mainGlobals "law" = some (some (.ref f55)))
    (l_law : K.lookup f55 = some ⟨oL, odL, .func (PySem.W.fnOf "law" "law" (defArgs (topS 55)) (defBody (topS 55)) (defScope (topS 55)) .none kVL dcL pmL anL (.ref cL) ctL), slL⟩)
    (c_law : PySem.W.codeIn K (.ref cL) "law" = true)
    (k_law : PySem.W.keepIn K (.ref f55) = true)
    (z_len : PySem.W.nsIn K mainGlobals "len" = some none)
    (z_range : PySem.W.nsIn K mainGlobals "range" = some none)
    (z_tuple : PySem.W.nsIn K mainGlobals "tuple" = some none)
    (z_list : PySem.W.nsIn K mainGlobals "list" = some none)
    (z_isinstance : PySem.W.nsIn K mainGlobals "isinstance" = some none)
    (z_str : PySem.W.nsIn K mainGlobals "str" = some none)
    (z_all : PySem.W.nsIn K mainGlobals "all" = some none)
    (z_enumerate : PySem.W.nsIn K mainGlobals "enumerate" = some none)
    (z_sorted : PySem.W.nsIn K mainGlobals "sorted" = some none)
    (z_bool : PySem.W.nsIn K mainGlobals "bool" = some none)
    (c_small : PySem.W.nsIn K mainGlobals "SMALL" = some (some (.str "abcdefghijklmnopqrstuvwxyz" t_small)))
    (c_caps : PySem.W.nsIn K mainGlobals "CAPITALS" = some (some (.str "ABCDEFGHIJKLMNOPQRSTUVWXYZ" t_caps)))
    (c_edge : PySem.W.nsIn K mainGlobals "EDGE" = some (some (.str "#" t_edge)))
    (c_mrul : PySem.W.nsIn K mainGlobals "MOST_RULES" = some (some (.int 12 t_mrul)))
    (c_lexc : PySem.W.nsIn K mainGlobals "LONGEST_EXCEPTION" = some (some (.int 8 t_lexc)))
    (c_lrs : PySem.W.nsIn K mainGlobals "LONGEST_RULE_SOUNDS" = some (some (.int 3 t_lrs)))
    (c_lso : PySem.W.nsIn K mainGlobals "LONGEST_SOUNDS" = some (some (.int 36 t_lso)))
    (c_iown : PySem.W.nsIn K mainGlobals "OWN" = some (some (.int 1 t_iown)))
    (c_isounds : PySem.W.nsIn K mainGlobals "SOUNDS" = some (some (.int 3 t_isounds)))
    (c_imost_samples : PySem.W.nsIn K mainGlobals "MOST_SAMPLES" = some (some (.int 12 t_imost_samples)))
    (l_code : K.lookup cL = some ⟨.type "code", cddL, .fields vsL, cslL⟩)
    (l_vs : vsL[11]? = some (.ref Pt))
    (l_v11 : vsL.getD 11 .none = .ref Pt)
    (l_v18 : vsL.getD 18 .none = .str lf18 lt18)
    (l_v7 : vsL.getD 7 .none = .int li7 lt7)
    (l_v9 : vsL.getD 9 .none = .bool lb9)
    (l_v10 : vsL.getD 10 .none = .int li10 lt10)
    (l_ne : cL ≠ Pt)
    (l_no : K.lookup Pt = none)
    (h0_a : PySem.W.nsIn K mainGlobals "are_said" = some (some (.ref f40)))
    (h0_l : K.lookup f40 = some ⟨oLh0_, odLh0_, .func (PySem.W.fnOf "are_said" "are_said" (defArgs (topS 40)) (defBody (topS 40)) (defScope (topS 40)) .none kVLh0_ dcLh0_ pmLh0_ anLh0_ (.ref cLh0_) ctLh0_), slLh0_⟩)
    (h0_c : PySem.W.codeIn K (.ref cLh0_) "are_said" = true)
    (h0_k : PySem.W.keepIn K (.ref f40) = true)
    (h0_code : K.lookup cLh0_ = some ⟨.type "code", cddLh0_, .fields vsLh0_, cslLh0_⟩)
    (h0_vs : vsLh0_[11]? = some (.ref Pth0_))
    (h0_v11 : vsLh0_.getD 11 .none = .ref Pth0_)
    (h0_v18 : vsLh0_.getD 18 .none = .str lf18h0_ lt18h0_)
    (h0_v7 : vsLh0_.getD 7 .none = .int li7h0_ lt7h0_)
    (h0_v9 : vsLh0_.getD 9 .none = .bool lb9h0_)
    (h0_v10 : vsLh0_.getD 10 .none = .int li10h0_ lt10h0_)
    (h0_ne : cLh0_ ≠ Pth0_)
    (h0_no : K.lookup Pth0_ = none)
    (h0_nP : Pt ≠ Pth0_)
    (gComb : PySem.W.nsIn K mainGlobals "combinations" = some (some (.type "itertools.combinations")))
    : LamX.LawAtS l w K CX0 11 63 "_law_script" mg fa h := by
  have e := hfa.symm.trans (PySem.W.mg_of X G a_law)
  cases e
  have B : Bn mg := ⟨PySem.W.mg_none_of X G z_len, PySem.W.mg_none_of X G z_range, PySem.W.mg_none_of X G z_tuple, PySem.W.mg_none_of X G z_list, PySem.W.mg_none_of X G z_isinstance, PySem.W.mg_none_of X G z_str, PySem.W.mg_none_of X G z_all, PySem.W.mg_none_of X G z_enumerate, PySem.W.mg_none_of X G z_sorted, PySem.W.mg_none_of X G z_bool⟩
  have C : Cn mg := ⟨⟨_, PySem.W.mg_of X G c_small⟩, ⟨_, PySem.W.mg_of X G c_caps⟩, ⟨_, PySem.W.mg_of X G c_edge⟩, ⟨_, PySem.W.mg_of X G c_mrul⟩, ⟨_, PySem.W.mg_of X G c_lexc⟩, ⟨_, PySem.W.mg_of X G c_lrs⟩, ⟨_, PySem.W.mg_of X G c_lso⟩⟩
  have KI_OWN : KI mg "OWN" 1 := ⟨_, PySem.W.mg_of X G c_iown⟩
  have KI_SOUNDS : KI mg "SOUNDS" 3 := ⟨_, PySem.W.mg_of X G c_isounds⟩
  have KI_MOST_SAMPLES : KI mg "MOST_SAMPLES" 12 := ⟨_, PySem.W.mg_of X G c_imost_samples⟩
  have hPt : h.get? Pt = some { cls := .none, data := .fields #[] } := OT cL Pt _ _ _ _ _ _ l_law rfl rfl l_code l_vs
  have mh0_ : mg "are_said" = some (.ref f40) := PySem.W.mg_of X G h0_a
  have hPth0_ : h.get? Pth0_ = some { cls := .none, data := .fields #[] } := OT0 _ mh0_ cLh0_ Pth0_ _ _ _ _ _ _ h0_l rfl rfl h0_code h0_vs
  refine ⟨PySem.W.fnOf "law" "law" (defArgs sLaw) (defBody sLaw) (defScope sLaw) .none kVL dcL pmL anL (.ref cL) ctL, [(cL, Pt), (cLh0_, Pth0_)], spLawT2 K Pt Pth0_, fun p hp => ?_, fun p hp => ?_, fun p hp => ?_, fun s v => .of_eq rfl, fun H a ns hl _ hH hS => ?_, fun base _ _ TB => ?_⟩
  · skip
    rcases List.mem_cons.mp hp with rfl | hp
    · exact hPt
    rw [List.mem_singleton.mp hp]
    exact hPth0_
  · skip
    rcases List.mem_cons.mp hp with rfl | hp
    · exact l_no
    rw [List.mem_singleton.mp hp]
    exact h0_no
  · skip
    rcases List.mem_cons.mp hp with rfl | hp
    · exact ⟨_, _, _, _, _, _, _, _, _, X _ _ l_code, rfl, rfl, l_vs, l_v11, l_v18, l_v7, l_v9, l_v10, l_ne⟩
    rw [List.mem_singleton.mp hp]
    exact ⟨_, _, _, _, _, _, _, _, _, X _ _ h0_code, rfl, rfl, h0_vs, h0_v11, h0_v18, h0_v7, h0_v9, h0_v10, h0_ne⟩
  · exact ⟨a, ns, rfl, hS, hl, hH _ (List.mem_cons_self ..), hH _ (List.mem_cons_of_mem _ (List.mem_cons_self ..)), fun _ => rfl⟩
  have TBh0_ := TB _ (List.mem_cons_of_mem _ (List.mem_cons_self ..))
  have Fh0_ := fun_mk h0_l h0_c h0_k
  have bh0_ := Fh0_.binds (ps := ["rules", "samples"]) fun _ _ _ _ _ _ us hl => match us, hl with | [_, _], _ => rfl
  have TBl := TB _ (List.mem_cons_self ..)
  obtain ⟨d22, F22, _⟩ := S22.fn
  have m22 := PySem.W.mg_of X G S22.ns
  have b22 := F22.binds (ps := ["text", "signs", "least", "most"]) fun _ _ _ _ _ _ us hl => match us, hl with | [_, _, _, _], _ => rfl
  have D_is_text : Df l.prog w K mg base "is_text" ["text", "signs", "least", "most"] 1 spIsText := ⟨_, _, ok_isText F22 B, F22.kp, b22, m22⟩
  obtain ⟨d23, F23, _⟩ := S23.fn
  have m23 := PySem.W.mg_of X G S23.ns
  have b23 := F23.binds (ps := ["text"]) fun _ _ _ _ _ _ us hl => match us, hl with | [_], _ => rfl
  have D_is_rising : Df l.prog w K mg base "is_rising" ["text"] 1 spRise := ⟨_, _, ok_rise F23 B, F23.kp, b23, m23⟩
  obtain ⟨d18, F18, _⟩ := S18.fn
  have m18 := PySem.W.mg_of X G S18.ns
  have b18 := F18.binds (ps := ["letters", "signs"]) fun _ _ _ _ _ _ us hl => match us, hl with | [_, _], _ => rfl
  have D_is_beside : Df l.prog w K mg base "is_beside" ["letters", "signs"] 2 spBeside := ⟨_, _, ok_beside F18 B C D_is_text D_is_rising, F18.kp, b18, m18⟩
  obtain ⟨d17, F17, _⟩ := S17.fn
  have m17 := PySem.W.mg_of X G S17.ns
  have b17 := F17.binds (ps := ["letters", "rule"]) fun _ _ _ _ _ _ us hl => match us, hl with | [_, _], _ => rfl
  have D_is_rule : Df l.prog w K mg base "is_rule" ["letters", "rule"] 3 spIsRule := ⟨_, _, ok_isRule F17 B C D_is_text D_is_beside, F17.kp, b17, m17⟩
  obtain ⟨d20, F20, _⟩ := S20.fn
  have m20 := PySem.W.mg_of X G S20.ns
  have b20 := F20.binds (ps := ["letters", "word"]) fun _ _ _ _ _ _ us hl => match us, hl with | [_, _], _ => rfl
  have D_is_excepted : Df l.prog w K mg base "is_excepted" ["letters", "word"] 2 spExcd := ⟨_, _, ok_excd F20 C D_is_text, F20.kp, b20, m20⟩
  obtain ⟨d21, F21, _⟩ := S21.fn
  have m21 := PySem.W.mg_of X G S21.ns
  have b21 := F21.binds (ps := ["sounds"]) fun _ _ _ _ _ _ us hl => match us, hl with | [_], _ => rfl
  have D_is_sounds : Df l.prog w K mg base "is_sounds" ["sounds"] 2 spIsSo := ⟨_, _, ok_isSo F21 C D_is_text, F21.kp, b21, m21⟩
  obtain ⟨d19, F19, _⟩ := S19.fn
  have m19 := PySem.W.mg_of X G S19.ns
  have b19 := F19.binds (ps := ["letters", "pair"]) fun _ _ _ _ _ _ us hl => match us, hl with | [_, _], _ => rfl
  have D_is_exception : Df l.prog w K mg base "is_exception" ["letters", "pair"] 3 spIsExc := ⟨_, _, ok_isExc F19 B D_is_excepted D_is_sounds, F19.kp, b19, m19⟩
  obtain ⟨d15, F15, _⟩ := S15.fn
  have m15 := PySem.W.mg_of X G S15.ns
  have b15 := F15.binds (ps := ["letters"]) fun _ _ _ _ _ _ us hl => match us, hl with | [_], _ => rfl
  have D_check_letters : Df l.prog w K mg base "check_letters" ["letters"] 2 spChL := ⟨_, _, ok_chL F15 C D_is_text D_is_rising, F15.kp, b15, m15⟩
  obtain ⟨d16, F16, _⟩ := S16.fn
  have m16 := PySem.W.mg_of X G S16.ns
  have b16 := F16.binds (ps := ["letters", "rules"]) fun _ _ _ _ _ _ us hl => match us, hl with | [_, _], _ => rfl
  have D_check_rules : Df l.prog w K mg base "check_rules" ["letters", "rules"] 4 spChR := ⟨_, _, ok_chR F16 B C D_is_rule, F16.kp, b16, m16⟩
  obtain ⟨d27, F27, _⟩ := S27.fn
  have m27 := PySem.W.mg_of X G S27.ns
  have b27 := F27.binds (ps := ["rule", "signs", "at"]) fun _ _ _ _ _ _ us hl => match us, hl with | [_, _, _], _ => rfl
  have D_fits : Df l.prog w K mg base "fits" ["rule", "signs", "at"] 1 spFits := ⟨_, _, ok_fits F27 B, F27.kp, b27, m27⟩
  obtain ⟨d28, F28, _⟩ := S28.fn
  have m28 := PySem.W.mg_of X G S28.ns
  have b28 := F28.binds (ps := ["rules", "signs", "at"]) fun _ _ _ _ _ _ us hl => match us, hl with | [_, _, _], _ => rfl
  have D_first_fit : Df l.prog w K mg base "first_fit" ["rules", "signs", "at"] 2 spFF := ⟨_, _, ok_FF F28 B D_fits, F28.kp, b28, m28⟩
  obtain ⟨d29, F29, _⟩ := S29.fn
  have m29 := PySem.W.mg_of X G S29.ns
  have b29 := F29.binds (ps := ["rules", "tail"]) fun _ _ _ _ _ _ us hl => match us, hl with | [_, _], _ => rfl
  have D_steps_of : Df l.prog w K mg base "steps_of" ["rules", "tail"] 3 spSt := ⟨_, _, ok_St F29 B C KI_OWN D_first_fit, F29.kp, b29, m29⟩
  obtain ⟨d33, F33, _⟩ := S33.fn
  have m33 := PySem.W.mg_of X G S33.ns
  have b33 := F33.binds (ps := ["steps"]) fun _ _ _ _ _ _ us hl => match us, hl with | [_], _ => rfl
  have D_numbers_of : Df l.prog w K mg base "numbers_of" ["steps"] 1 spNum := ⟨_, _, ok_num F33, F33.kp, b33, m33⟩
  obtain ⟨d34, F34, _⟩ := S34.fn
  have m34 := PySem.W.mg_of X G S34.ns
  have b34 := F34.binds (ps := ["rules", "numbers"]) fun _ _ _ _ _ _ us hl => match us, hl with | [_, _], _ => rfl
  have D_sounds_of : Df l.prog w K mg base "sounds_of" ["rules", "numbers"] 1 spSou := ⟨_, _, ok_sou F34 KI_SOUNDS, F34.kp, b34, m34⟩
  obtain ⟨d30, F30, _⟩ := S30.fn
  have m30 := PySem.W.mg_of X G S30.ns
  have b30 := F30.binds (ps := ["rules", "tail"]) fun _ _ _ _ _ _ us hl => match us, hl with | [_, _], _ => rfl
  have D_ending : Df l.prog w K mg base "ending" ["rules", "tail"] 4 spEnd := ⟨_, _, ok_end F30 D_steps_of D_numbers_of, F30.kp, b30, m30⟩
  obtain ⟨d31, F31, _⟩ := S31.fn
  have m31 := PySem.W.mg_of X G S31.ns
  have b31 := F31.binds (ps := ["rules", "tail"]) fun _ _ _ _ _ _ us hl => match us, hl with | [_, _], _ => rfl
  have D_ending_sounds : Df l.prog w K mg base "ending_sounds" ["rules", "tail"] 5 spEnS := ⟨_, _, ok_enS F31 D_ending D_sounds_of, F31.kp, b31, m31⟩
  obtain ⟨d32, F32, _⟩ := S32.fn
  have m32 := PySem.W.mg_of X G S32.ns
  have b32 := F32.binds (ps := ["rules", "word"]) fun _ _ _ _ _ _ us hl => match us, hl with | [_, _], _ => rfl
  have D_word_sounds : Df l.prog w K mg base "word_sounds" ["rules", "word"] 6 spWS := ⟨_, _, ok_WS F32 C D_ending_sounds, F32.kp, b32, m32⟩
  obtain ⟨d41, F41, _⟩ := S41.fn
  have m41 := PySem.W.mg_of X G S41.ns
  have b41 := F41.binds (ps := ["rules", "sample"]) fun _ _ _ _ _ _ us hl => match us, hl with | [_, _], _ => rfl
  have D_is_said : Df l.prog w K mg base "is_said" ["rules", "sample"] 7 spIsSaid := ⟨_, _, ok_isSaid F41 D_word_sounds, F41.kp, b41, m41⟩
  obtain ⟨d39, F39, _⟩ := S39.fn
  have m39 := PySem.W.mg_of X G S39.ns
  have b39 := F39.binds (ps := ["letters", "samples"]) fun _ _ _ _ _ _ us hl => match us, hl with | [_, _], _ => rfl
  have D_check_samples : Df l.prog w K mg base "check_samples" ["letters", "samples"] 4 spChS := ⟨_, _, ok_chS F39 B KI_MOST_SAMPLES D_is_exception, F39.kp, b39, m39⟩
  obtain ⟨d38, F38, _⟩ := S38.fn
  have m38 := PySem.W.mg_of X G S38.ns
  have b38 := F38.binds (ps := ["letters", "rules", "samples"]) fun _ _ _ _ _ _ us hl => match us, hl with | [_, _, _], _ => rfl
  have D_check_all : Df l.prog w K mg base "check_all" ["letters", "rules", "samples"] 5 spChA := ⟨_, _, ok_chA F38 D_check_letters D_check_rules D_check_samples, F38.kp, b38, m38⟩
  obtain ⟨d37, F37, _⟩ := S37.fn
  have m37 := PySem.W.mg_of X G S37.ns
  obtain ⟨d43, F43, _⟩ := S43.fn
  have m43 := PySem.W.mg_of X G S43.ns
  have b43 := F43.binds (ps := ["_law_script"]) fun _ _ _ _ _ _ us hl => match us, hl with | [_], _ => rfl
  have D__law_row : Df l.prog w K mg base "_law_row" ["_law_script"] 1 (spRow K) := ⟨_, _, ok_row F43, F43.kp, b43, m43⟩
  obtain ⟨d44, F44, _⟩ := S44.fn
  have m44 := PySem.W.mg_of X G S44.ns
  have b44 := F44.binds (ps := ["_law_row_here", "_law_many"]) fun _ _ _ _ _ _ us hl => match us, hl with | [_, _], _ => rfl
  have D__law_taken : Df l.prog w K mg base "_law_taken" ["_law_row_here", "_law_many"] 1 (spTaken K) := ⟨_, _, ok_taken F44 B.len, F44.kp, b44, m44⟩
  obtain ⟨d45, F45, _⟩ := S45.fn
  have m45 := PySem.W.mg_of X G S45.ns
  have b45 := F45.binds (ps := ["_law_row_here"]) fun _ _ _ _ _ _ us hl => match us, hl with | [_], _ => rfl
  have D__law_letters : Df l.prog w K mg base "_law_letters" ["_law_row_here"] 2 (spLetters K) := ⟨_, _, ok_letters F45 D__law_taken, F45.kp, b45, m45⟩
  obtain ⟨d46, F46, _⟩ := S46.fn
  have m46 := PySem.W.mg_of X G S46.ns
  have b46 := F46.binds (ps := ["_law_row_here", "_law_letters_here"]) fun _ _ _ _ _ _ us hl => match us, hl with | [_, _], _ => rfl
  have D__law_side : Df l.prog w K mg base "_law_side" ["_law_row_here", "_law_letters_here"] 2 (spSide K) := ⟨_, _, ok_side F46 D__law_taken, F46.kp, b46, m46⟩
  obtain ⟨d47, F47, _⟩ := S47.fn
  have m47 := PySem.W.mg_of X G S47.ns
  have b47 := F47.binds (ps := ["_law_row_here", "_law_signs", "_law_fewest", "_law_many"]) fun _ _ _ _ _ _ us hl => match us, hl with | [_, _, _, _], _ => rfl
  have D__law_text : Df l.prog w K mg base "_law_text" ["_law_row_here", "_law_signs", "_law_fewest", "_law_many"] 2 (spText K) := ⟨_, _, ok_text F47 D__law_taken B.len B.rng, F47.kp, b47, m47⟩
  obtain ⟨d48, F48, _⟩ := S48.fn
  have m48 := PySem.W.mg_of X G S48.ns
  have b48 := F48.binds (ps := ["_law_row_here", "_law_letters_here"]) fun _ _ _ _ _ _ us hl => match us, hl with | [_, _], _ => rfl
  have D__law_rule : Df l.prog w K mg base "_law_rule" ["_law_row_here", "_law_letters_here"] 3 (spRule K) := ⟨_, _, ok_rule F48 D__law_taken D__law_side D__law_text, F48.kp, b48, m48⟩
  obtain ⟨d49, F49, _⟩ := S49.fn
  have m49 := PySem.W.mg_of X G S49.ns
  have b49 := F49.binds (ps := ["_law_row_here", "_law_letters_here", "_law_most"]) fun _ _ _ _ _ _ us hl => match us, hl with | [_, _, _], _ => rfl
  have D__law_rules : Df l.prog w K mg base "_law_rules" ["_law_row_here", "_law_letters_here", "_law_most"] 4 (spRules K) := ⟨_, _, ok_rules F49 D__law_taken D__law_rule B.rng B.tup, F49.kp, b49, m49⟩
  obtain ⟨d50, F50, _⟩ := S50.fn
  have m50 := PySem.W.mg_of X G S50.ns
  have b50 := F50.binds (ps := ["_law_rule_here", "_law_word", "_law_place"]) fun _ _ _ _ _ _ us hl => match us, hl with | [_, _, _], _ => rfl
  have D__law_fits : Df l.prog w K mg base "_law_fits" ["_law_rule_here", "_law_word", "_law_place"] 1 spLF := ⟨_, _, ok_LF F50 B, F50.kp, b50, m50⟩
  obtain ⟨d51, F51, _⟩ := S51.fn
  have m51 := PySem.W.mg_of X G S51.ns
  have b51 := F51.binds (ps := ["_law_rules_here", "_law_word"]) fun _ _ _ _ _ _ us hl => match us, hl with | [_, _], _ => rfl
  have D__law_walk : Df l.prog w K mg base "_law_walk" ["_law_rules_here", "_law_word"] 2 spLW := ⟨_, _, ok_LW F51 B D__law_fits, F51.kp, b51, m51⟩
  obtain ⟨d52, F52, _⟩ := S52.fn
  have m52 := PySem.W.mg_of X G S52.ns
  have b52 := F52.binds (ps := ["_law_book", "_law_word"]) fun _ _ _ _ _ _ us hl => match us, hl with | [_, _], _ => rfl
  have D__law_said : Df l.prog w K mg base "_law_said" ["_law_book", "_law_word"] 3 spLS := ⟨_, _, ok_LS F52 D__law_walk, F52.kp, b52, m52⟩
  obtain ⟨d53, F53, _⟩ := S53.fn
  have m53 := PySem.W.mg_of X G S53.ns
  have b53 := F53.binds (ps := ["_law_many"]) fun _ _ _ _ _ _ us hl => match us, hl with | [_], _ => rfl
  have D__law_sets : Df l.prog w K mg base "_law_sets" ["_law_many"] 1 spSets := ⟨_, _, ok_sets (k := 0) F53 B, F53.kp, b53, m53⟩
  obtain ⟨d54, F54, _⟩ := S54.fn
  have m54 := PySem.W.mg_of X G S54.ns
  have b54 := F54.binds (ps := ["_law_found", "_law_due"]) fun _ _ _ _ _ _ us hl => match us, hl with | [_, _], _ => rfl
  have D__law_alike : Df l.prog w K mg base "_law_alike" ["_law_found", "_law_due"] 2 (spAl K 2) := ⟨_, _, al_all F54 b54 m54 B 2, F54.kp, b54, m54⟩
  have D_FFL : Df l.prog w K mg base "first_fit" ["rules", "signs", "at"] 2 spFFL := ⟨_, _, ok_FFL F28 B D_fits, F28.kp, b28, m28⟩
  have D_StL : Df l.prog w K mg base "steps_of" ["rules", "tail"] 3 spStL := ⟨_, _, ok_StL F29 B C KI_OWN D_FFL, F29.kp, b29, m29⟩
  have D_SouL : Df l.prog w K mg base "sounds_of" ["rules", "numbers"] 1 spSouL := ⟨_, _, ok_souL (k := 0) F34 KI_SOUNDS, F34.kp, b34, m34⟩
  have D_EndL : Df l.prog w K mg base "ending" ["rules", "tail"] 4 spEndL := ⟨_, _, ok_endL F30 D_StL D_numbers_of, F30.kp, b30, m30⟩
  have D_EnSL : Df l.prog w K mg base "ending_sounds" ["rules", "tail"] 5 spEnSL := ⟨_, _, ok_enSL F31 D_EndL D_SouL, F31.kp, b31, m31⟩
  have D_WSL : Df l.prog w K mg base "word_sounds" ["rules", "word"] 6 spWSL := ⟨_, _, ok_WSL F32 C D_EnSL, F32.kp, b32, m32⟩
  have D_IsL : Df l.prog w K mg base "is_said" ["rules", "sample"] 7 spIsSaidL := ⟨_, _, ok_isSaidL F41 D_WSL, F41.kp, b41, m41⟩
  have D_are : Df l.prog w K mg base "are_said" ["rules", "samples"] 9 (spAre [(Pth0_, qAre)]) := ⟨_, _, ok_are h0_l h0_c TBh0_ (by simp) (fun p hp e => by
    rw [List.mem_singleton.mp hp]) B D_IsL, Fh0_.kp, bh0_, mh0_⟩
  have b37 := F37.binds (ps := ["letters", "rules", "samples"]) fun _ _ _ _ _ _ us hl => match us, hl with | [_, _, _], _ => rfl
  have D_lea : Df l.prog w K mg base "least" ["letters", "rules", "samples"] 10 (spLe [(Pth0_, qAre)]) := ⟨_, _, ok_le F37 B (PySem.W.mg_of X G gComb) D_check_all D_are, F37.kp, b37, m37⟩
  exact ok_law l_law c_law B D__law_row D__law_taken D__law_letters D__law_rules D__law_text D__law_said D__law_sets D__law_alike D_lea
end Say
open PySem PySem.W PyProof.Rows
set_option maxRecDepth 100000 in
set_option maxHeartbeats 0 in
theorem PySem.Challenge.cw_saylore_k16_the_fewest_rules_holds : PySem.Challenge.rw_saylore_k16_the_fewest_rules.Holds := by
  w_on; o_law; k_head; (case hw => w_witness2)
  k_fill
  refine LamX.walk_ofOwns (l := PySem.Challenge.rw_saylore_k16_the_fewest_rules) (n := 63) (k := 11) (x := "_law_script") (CX := fun _ => L2.CX0) rfl (by decide) rfl ⟨rfl, by decide, by decide⟩ (fun w h Y => PySem.W.kIn_of Y) ?F (fun _ _ _ _ _ h => h)
  case F =>
    intro w mg fa h KY KX G hmg OT
    refine' Say.all_ok KX G hmg (OT "law" _ (by decide +kernel) hmg) (fun g hg => OT "are_said" g (by decide +kernel) hg) (Say.std_mk ?a22 ?l22 ?c22 ?k22) (Say.std_mk ?a23 ?l23 ?c23 ?k23) (Say.std_mk ?a18 ?l18 ?c18 ?k18) (Say.std_mk ?a17 ?l17 ?c17 ?k17) (Say.std_mk ?a20 ?l20 ?c20 ?k20) (Say.std_mk ?a21 ?l21 ?c21 ?k21) (Say.std_mk ?a19 ?l19 ?c19 ?k19) (Say.std_mk ?a15 ?l15 ?c15 ?k15) (Say.std_mk ?a16 ?l16 ?c16 ?k16) (Say.std_mk ?a27 ?l27 ?c27 ?k27) (Say.std_mk ?a28 ?l28 ?c28 ?k28) (Say.std_mk ?a29 ?l29 ?c29 ?k29) (Say.std_mk ?a33 ?l33 ?c33 ?k33) (Say.std_mk ?a34 ?l34 ?c34 ?k34) (Say.std_mk ?a30 ?l30 ?c30 ?k30) (Say.std_mk ?a31 ?l31 ?c31 ?k31) (Say.std_mk ?a32 ?l32 ?c32 ?k32) (Say.std_mk ?a41 ?l41 ?c41 ?k41) (Say.std_mk ?a39 ?l39 ?c39 ?k39) (Say.std_mk ?a38 ?l38 ?c38 ?k38) (Say.std_mk ?a37 ?l37 ?c37 ?k37) (Say.std_mk ?a43 ?l43 ?c43 ?k43) (Say.std_mk ?a44 ?l44 ?c44 ?k44) (Say.std_mk ?a45 ?l45 ?c45 ?k45) (Say.std_mk ?a46 ?l46 ?c46 ?k46) (Say.std_mk ?a47 ?l47 ?c47 ?k47) (Say.std_mk ?a48 ?l48 ?c48 ?k48) (Say.std_mk ?a49 ?l49 ?c49 ?k49) (Say.std_mk ?a50 ?l50 ?c50 ?k50) (Say.std_mk ?a51 ?l51 ?c51 ?k51) (Say.std_mk ?a52 ?l52 ?c52 ?k52) (Say.std_mk ?a53 ?l53 ?c53 ?k53) (Say.std_mk ?a54 ?l54 ?c54 ?k54) ?a_law ?l_law ?c_law ?k_law ?z_len ?z_range ?z_tuple ?z_list ?z_isinstance ?z_str ?z_all ?z_enumerate ?z_sorted ?z_bool ?c_small ?c_caps ?c_edge ?c_mrul ?c_lexc ?c_lrs ?c_lso ?c_iown ?c_isounds ?c_imost_samples ?l_code ?l_vs ?l_v11 ?l_v18 ?l_v7 ?l_v9 ?l_v10 ?l_ne ?l_no ?h0_a ?h0_l ?h0_c ?h0_k ?h0_code ?h0_vs ?h0_v11 ?h0_v18 ?h0_v7 ?h0_v9 ?h0_v10 ?h0_ne ?h0_no ?h0_nP ?gComb
    (case a_law => k_is); (case z_len => k_is); (case z_range => k_is); (case z_tuple => k_is); (case z_list => k_is); (case z_isinstance => k_is)
    (case z_str => k_is); (case z_all => k_is); (case z_enumerate => k_is); (case z_sorted => k_is); (case z_bool => k_is); (case c_small => k_is)
    (case c_caps => k_is); (case c_edge => k_is); (case c_mrul => k_is); (case c_lexc => k_is); (case c_lrs => k_is); (case c_lso => k_is)
    (case c_iown => k_is); (case c_isounds => k_is); (case c_imost_samples => k_is); (case h0_a => k_is); (case gComb => k_is); (case a22 => k_is)
    (case l22 => k_is); (case c22 => k_is); (case k22 => k_is); (case a23 => k_is); (case l23 => k_is); (case c23 => k_is)
    (case k23 => k_is); (case a18 => k_is); (case l18 => k_is); (case c18 => k_is); (case k18 => k_is); (case a17 => k_is)
    (case l17 => k_is); (case c17 => k_is); (case k17 => k_is); (case a20 => k_is); (case l20 => k_is); (case c20 => k_is)
    (case k20 => k_is); (case a21 => k_is); (case l21 => k_is); (case c21 => k_is); (case k21 => k_is); (case a19 => k_is)
    (case l19 => k_is); (case c19 => k_is); (case k19 => k_is); (case a15 => k_is); (case l15 => k_is); (case c15 => k_is)
    (case k15 => k_is); (case a16 => k_is); (case l16 => k_is); (case c16 => k_is); (case k16 => k_is); (case a27 => k_is)
    (case l27 => k_is); (case c27 => k_is); (case k27 => k_is); (case a28 => k_is); (case l28 => k_is); (case c28 => k_is)
    (case k28 => k_is); (case a29 => k_is); (case l29 => k_is); (case c29 => k_is); (case k29 => k_is); (case a33 => k_is)
    (case l33 => k_is); (case c33 => k_is); (case k33 => k_is); (case a34 => k_is); (case l34 => k_is); (case c34 => k_is)
    (case k34 => k_is); (case a30 => k_is); (case l30 => k_is); (case c30 => k_is); (case k30 => k_is); (case a31 => k_is)
    (case l31 => k_is); (case c31 => k_is); (case k31 => k_is); (case a32 => k_is); (case l32 => k_is); (case c32 => k_is)
    (case k32 => k_is); (case a41 => k_is); (case l41 => k_is); (case c41 => k_is); (case k41 => k_is); (case a39 => k_is)
    (case l39 => k_is); (case c39 => k_is); (case k39 => k_is); (case a38 => k_is); (case l38 => k_is); (case c38 => k_is)
    (case k38 => k_is); (case a37 => k_is); (case l37 => k_is); (case c37 => k_is); (case k37 => k_is); (case a43 => k_is)
    (case l43 => k_is); (case c43 => k_is); (case k43 => k_is); (case a44 => k_is); (case l44 => k_is); (case c44 => k_is)
    (case k44 => k_is); (case a45 => k_is); (case l45 => k_is); (case c45 => k_is); (case k45 => k_is); (case a46 => k_is)
    (case l46 => k_is); (case c46 => k_is); (case k46 => k_is); (case a47 => k_is); (case l47 => k_is); (case c47 => k_is)
    (case k47 => k_is); (case a48 => k_is); (case l48 => k_is); (case c48 => k_is); (case k48 => k_is); (case a49 => k_is)
    (case l49 => k_is); (case c49 => k_is); (case k49 => k_is); (case a50 => k_is); (case l50 => k_is); (case c50 => k_is)
    (case k50 => k_is); (case a51 => k_is); (case l51 => k_is); (case c51 => k_is); (case k51 => k_is); (case a52 => k_is)
    (case l52 => k_is); (case c52 => k_is); (case k52 => k_is); (case a53 => k_is); (case l53 => k_is); (case c53 => k_is)
    (case k53 => k_is); (case a54 => k_is); (case l54 => k_is); (case c54 => k_is); (case k54 => k_is); (case l_law => k_is)
    (case c_law => k_is); (case k_law => k_is); (case l_code => k_is); (case l_vs => rfl); (case l_v11 => rfl); (case l_v18 => rfl)
    (case l_v7 => rfl); (case l_v9 => rfl); (case l_v10 => rfl); (case l_ne => decide +kernel); (case l_no => kernel_rfl); (case h0_l => k_is)
    (case h0_c => k_is); (case h0_k => k_is); (case h0_code => k_is); (case h0_vs => rfl); (case h0_v11 => rfl); (case h0_v18 => rfl)
    (case h0_v7 => rfl); (case h0_v9 => rfl); (case h0_v10 => rfl); (case h0_ne => decide +kernel); (case h0_no => kernel_rfl); (case h0_nP => decide +kernel)
