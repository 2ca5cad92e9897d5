import PyProof.Rows.All
import Wide.All
import OpenK.AllK
import Wide.FinOn
import HandS.ForMost
import HandS.IsInst
import HandS.Walk
import HandS.SortRule
import HandS.DictTup
import HandS.ListItems
import HandS.Conv
import HandS.More
import KE.GoesEnum
import KE.GoesMore
import PySem.Challenge.RW_saylore_k18_whole_the_fewest_say_all
import PyProof.ConsumeS
import PyProof.GenQ
import HandS.AnyAll
import HandS.GenOver
import HandS.GenList
import HandS.Lambda
import PyProof.ZipIter
import HandS.Zip0
import HandS.ForExc
import HandS.FStr
import HandS.ExcInit
import KE.KExcSuper
import HandS.SetFor
import HandS.ExcIs
import HandS.ExcField
import KE.KExcIs
import HandS.EndOwn
import KE.KNestM
import KE.RegKSuper
import KE.KDflt
import KE.DatumOrd
import KE.KDictPairs
import HandS.TupAny
set_option Elab.async false
set_option linter.all false
set_option maxRecDepth 100000
set_option maxHeartbeats 16000000
namespace Say
open PySem PySem.Spec PyProof.Rows L2
/-! ### the text by places -/
def topS (i : Nat) : Stmt := PySem.Challenge.pw_saylore_k18_whole_the_fewest_say_all.main.body.getD i (.Pass ⟨0, 0, 0, 0⟩)
/-! ### texts as lists of signs -/
abbrev T (l : List Nat) : Str := ⟨l.toArray⟩
theorem T_list (z : Str) : T z.cps.toList = z := by
  cases z; rfl
@[simp] theorem T_cps (l : List Nat) : (T l).cps.toList = l := rfl
theorem T_len (l : List Nat) : (T l).length = l.length := by
  show l.toArray.size = l.length
  simp
theorem T_inj {a b : List Nat} (h : T a = T b) : a = b := by
  have := congrArg (fun z : Str => z.cps.toList) h
  exact this
/-! ### heaps -/
/-- all that was tracked is as it was, but at r -/
def Stp (r : Addr) (H H' : Hp) : Prop := ∀ b o, H b = some o → b ≠ r → H' b = some o
theorem Stp.refl (r : Addr) (H : Hp) : Stp r H H := fun _ _ h _ => h
theorem Stp.trans {r : Addr} {H H1 H2 : Hp} (a : Stp r H H1) (b : Stp r H1 H2) : Stp r H H2 := fun c o h n => b c o (a c o h n) n
theorem Stp.of {r : Addr} {H H' : Hp} (e : Same H H') : Stp r H H' := fun b o h _ => e b o h
theorem Stp.seq {K : PySem.W.Frag} {r a : Addr} {H H' : Hp} {xs : List V} (e : Stp r H H') (n : a ≠ r) (h : SqL K H a xs) : SqL K H' a xs := by
  rcases h with (h | ⟨o, h⟩) | h
  · exact .inl (.inl (e _ _ h n))
  · exact .inl (.inr ⟨o, e _ _ h n⟩)
  · exact .inr h
theorem same_new {H : Hp} {p : Addr} (h : H p = none) (o : HO) : Same H (upd H p o) := fun b u q => by rw [upd_ne (ne_of_none q h)]; exact q
theorem stp_at {r : Addr} {H : Hp} (o : HO) : Stp r H (upd H r o) := fun b u q n => by rw [upd_ne n]; exact q
/-- tuples stay (frozen ones: as they were made) -/
def KT (H H' : Hp) : Prop := (∀ t xs, H t = some (.tup xs) → H' t = some (.tup xs)) ∧ ∀ t o xs, H t = some (.frz o (.tup xs)) → H' t = some (.frz o (.tup xs))
theorem KT.by {H H' : Hp} (f : ∀ t u, H t = some u → ((∃ xs, u = .tup xs) ∨ ∃ o xs, u = .frz o (.tup xs)) → H' t = some u) : KT H H' := ⟨fun t xs h => f t _ h (.inl ⟨xs, rfl⟩), fun t o xs h => f t _ h (.inr ⟨o, xs, rfl⟩)⟩
theorem KT.refl (H : Hp) : KT H H := ⟨fun _ _ h => h, fun _ _ _ h => h⟩
theorem KT.trans {H H1 H2 : Hp} (a : KT H H1) (b : KT H1 H2) : KT H H2 := ⟨fun t xs h => b.1 t xs (a.1 t xs h), fun t o xs h => b.2 t o xs (a.2 t o xs h)⟩
theorem KT.of {H H' : Hp} (e : Same H H') : KT H H' := ⟨fun t xs h => e t _ h, fun t o xs h => e t _ h⟩
/-- the row that is drawn from: the script at a -/
structure RowAt (K : PySem.W.Frag) (H : Hp) (r a : Addr) (ns : List Int) : Prop where
  row : ∃ i c m : Int, H r = some (.lst [.ref a, .int i, .int c, .int m]) ∧ 0 ≤ i ∧ 0 ≤ m ∧ m < 2147483647
  scr : SqL K H a (ns.map V.int)
  le : ns.length ≤ 63
theorem ints_ne {ns : List Int} {a : Addr} {l : List V} : ns.map V.int ≠ V.ref a :: l := by
  cases ns with
  | nil => intro z; cases z
  | cons x r => intro z; cases z
theorem Stp.scr {K : PySem.W.Frag} {r a : Addr} {H H' : Hp} {ns : List Int} {l : List V} (e : Stp r H H') (hr : H r = some (.lst (.ref a :: l))) (h : SqL K H a (ns.map V.int)) : SqL K H' a (ns.map V.int) := by
  rcases h with (h | ⟨o, h⟩) | h
  · refine .inl (.inl (e _ _ h fun z => ?_))
    subst z
    rw [hr] at h
    exact ints_ne (HO.lst.inj (Option.some.inj h)).symm
  · refine .inl (.inr ⟨o, e _ _ h fun z => ?_⟩)
    subst z
    rw [hr] at h
    cases h
  · exact .inr h
theorem RowAt.stp {K : PySem.W.Frag} {H H' : Hp} {r a : Addr} {ns : List Int} (R : RowAt K H r a ns) (e : Same H H') : RowAt K H' r a ns := by
  obtain ⟨⟨i, c, m, h, q⟩, s, l⟩ := R
  exact ⟨⟨i, c, m, e _ _ h, q⟩, e.seq s, l⟩
theorem RowAt.kt {K : PySem.W.Frag} {H H' : Hp} {r a : Addr} {ns : List Int} (R : RowAt K H r a ns) (e : Stp r H H') : KT H H' := KT.by fun t u h hu => by
  obtain ⟨⟨i, c, m, q, _⟩, _⟩ := R
  exact e t _ h (ne_of h q (by rcases hu with ⟨_, rfl⟩ | ⟨_, _, rfl⟩ <;> (intro z; cases z)))
theorem RowAt.put {K : PySem.W.Frag} {H : Hp} {r a : Addr} {ns : List Int} (R : RowAt K H r a ns) {i c m : Int} (h0 : 0 ≤ i) (h1 : 0 ≤ m) (h2 : m < 2147483647) : RowAt K (upd H r (.lst [.ref a, .int i, .int c, .int m])) r a ns := by
  obtain ⟨⟨i', c', m', q, _⟩, s, l⟩ := R
  exact ⟨⟨i, c, m, upd_same, h0, h1, h2⟩, (stp_at _).scr q s, l⟩
theorem small {n : Nat} (h : n ≤ 16000000) : n ≤ sizeLine := Nat.le_trans h (by decide)
theorem smallM {n : Nat} (h : n ≤ 16000000) : n < sizeLine := Nat.lt_of_le_of_lt h (by decide)
/-- law's promise -/
def spLaw (K : PySem.W.Frag) : Sp := fun vs H Q _ => ∃ (a : Addr) (ns : List Int), vs = [.ref a] ∧ SqL K H a (ns.map V.int) ∧ ns.length ≤ 63 ∧ ∀ H', Q (.bl true) H'
/-- _law_taken -/
def spTaken (K : PySem.W.Frag) : Sp := fun vs H Q _ => ∃ (r a : Addr) (ns : List Int) (n : Int), vs = [.ref r, .int n] ∧ RowAt K H r a ns ∧ 0 < n ∧ n < 100000 ∧
  ∀ (k : Int) (H' : Hp), 0 ≤ k → k < n → Stp r H H' → RowAt K H' r a ns → Q (.int k) H'
end Say
namespace Say
open PySem PySem.Spec PyProof.Rows L2
theorem T_app (a b : List Nat) : T a ++ T b = T (a ++ b) := TL.ext_tl (by rw [TL.tl_append])
theorem hash_eq : ("#" : Str) = T [35] := by decide +kernel
theorem nil_eq : ("" : Str) = T [] := by decide +kernel
theorem joinL_nil : ∀ ls : List (List Nat), TL.joinL [] ls = ls.flatten
  | [] => rfl
  | [p] => by simp [TL.joinL]
  | p :: q :: r => by
    show p ++ ([] ++ TL.joinL [] (q :: r)) = _
    rw [joinL_nil (q :: r)]
    simp
theorem join_nil (ls : List (List Nat)) : Txt.join (T []) (ls.map T) = T ls.flatten := by
  refine TL.ext_tl ?_
  rw [TL.join_eq, TL.tl_join]
  show TL.joinL [] ((ls.map T).map TL.tl) = ls.flatten
  rw [List.map_map, ← joinL_nil]
  congr 1
  exact List.map_id' ls
theorem map_single : ∀ l : List Nat, (l.map fun c => [c]).flatten = l
  | [] => rfl
  | c :: r => by
    show [c] ++ (r.map fun c => [c]).flatten = c :: r
    rw [map_single r]; rfl
/-- the row's own list -/
def RowIn (H : Hp) (r a : Addr) : Prop := ∃ i c m : Int, H r = some (.lst [.ref a, .int i, .int c, .int m]) ∧ 0 ≤ i ∧ 0 ≤ m ∧ m < 2147483647
theorem RowAt.in {K : PySem.W.Frag} {H : Hp} {r a : Addr} {ns : List Int} (R : RowAt K H r a ns) : RowIn H r a := R.row
theorem RowAt.of {K : PySem.W.Frag} {H H' : Hp} {r a : Addr} {ns : List Int} (R : RowAt K H r a ns) (e : Stp r H H') (w : RowIn H' r a) : RowAt K H' r a ns := by
  obtain ⟨⟨i, c, m, q, _⟩, s, l⟩ := R
  exact ⟨w, e.scr q s, l⟩
theorem RowIn.upd {H : Hp} {r a D : Addr} {o : HO} (w : RowIn H r a) (n : r ≠ D) : RowIn (upd H D o) r a := by
  obtain ⟨i, c, m, q, b⟩ := w
  exact ⟨i, c, m, by rw [upd_ne n]; exact q, b⟩
theorem RowAt.nw {K : PySem.W.Frag} {H : Hp} {r a D : Addr} {ns : List Int} (R : RowAt K H r a ns) (h : H D = none) : r ≠ D := by
  obtain ⟨⟨i, c, m, q, _⟩, s, l⟩ := R
  exact ne_of_none q h
theorem Stp.put {r D : Addr} {H H' : Hp} (e : Stp r H H') (h : H D = none) (o : HO) : Stp r H (upd H' D o) := fun b u q n => by
  rw [upd_ne (ne_of_none q h)]
  exact e b u q n
theorem Stp.one {r D : Addr} {H H' : Hp} {o : HO} (e : Stp r H H') (h : H D = some o) (n : r ≠ D) : H' D = some o := e _ _ h (Ne.symm n)
/-- signs of a text, a list of one-sign texts -/
def sg (l : List Nat) : List V := l.map fun c => V.str (T [c])
theorem sg_map (l : List Nat) : sg l = ((l.map fun c => [c]).map T).map V.str := by
  unfold sg
  rw [List.map_map, List.map_map]
  rfl
theorem sg_len (l : List Nat) : (sg l).length = l.length := by unfold sg; rw [List.length_map]
theorem sum_ones : ∀ l : List Nat, (((l.map fun c => [c]).map T).map (fun z : Str => z.length)).sum = l.length
  | [] => rfl
  | c :: r => by
    show 1 + (((r.map fun c => [c]).map T).map (fun z : Str => z.length)).sum = r.length + 1
    rw [sum_ones r]; omega
end Say
namespace Say
open PySem PySem.Spec PyProof.Rows L2
/-- a def that stands at the module's name and keeps its promise -/
def Df (P : Program) (w : World) (K : PySem.W.Frag) (mg : Str → Option Value) (base : Heap) (x : Str) (ps : List Str) (k : Nat) (sp : Sp) : Prop :=
  ∃ f fd, FnOk P w K mg base CX0 k f fd ps sp ∧ PySem.W.keepIn K (.ref f) = true ∧ Binds K fd ps [] ∧ mg x = some (.ref f)
theorem hash_app (L : List Nat) : (Str.ofString "#" ++ T L) = T (35 :: L) := by
  rw [show Str.ofString "#" = T [35] from hash_eq, T_app]
  rfl
theorem app_hash (L : List Nat) : (T L ++ Str.ofString "#") = T (L ++ [35]) := by
  rw [show Str.ofString "#" = T [35] from hash_eq, T_app]
theorem T_at {l : List Nat} {i c : Nat} (h : (T l).cps[i]? = some c) : l[i]? = some c := by
  have h : l.toArray[i]? = some c := h
  rw [List.getElem?_toArray] at h
  exact h
theorem T_at' {l : List Nat} {i c : Nat} (h : l[i]? = some c) : (T l).cps[i]? = some c := by
  show l.toArray[i]? = some c
  rw [List.getElem?_toArray]
  exact h
theorem T_size (l : List Nat) : (T l).cps.size = l.length := by
  show l.toArray.size = _
  simp
theorem take_next {l : List Nat} {i c : Nat} (h : l[i]? = some c) : l.take (i + 1) = l.take i ++ [c] := by
  rw [List.take_add_one, h]; rfl
theorem sg_app (a : List Nat) (c : Nat) : sg a ++ [V.str (T [c])] = sg (a ++ [c]) := by
  unfold sg
  rw [List.map_append]
  rfl
theorem len_hash : (Str.ofString "#").length = 1 := by decide +kernel
end Say
namespace Say
open PySem PySem.Spec PyProof.Rows L2
theorem at_list {α : Type} {l : List α} {z : Int} (h : z.toNat < l.length) (h0 : 0 ≤ z) : atI l z = some l[z.toNat] := by
  have q : l[z.toNat]? = some l[z.toNat] := List.getElem?_eq_getElem h
  have := atI_nat q
  rwa [show ((z.toNat : Nat) : Int) = z by omega] at this
end Say
namespace Say
open PySem PySem.Spec PyProof.Rows L2
/-! ### the data -/
structure Rule where
  ah : List Nat
  ow : List Nat
  be : List Nat
  so : List Nat
def Rule.vs (ρ : Rule) : List V := [.str (T ρ.ah), .str (T ρ.ow), .str (T ρ.be), .str (T ρ.so)]
/-- a rule of a book of the letters L -/
structure RuleOk (L : List Nat) (ρ : Rule) : Prop where
  ah : ρ.ah.Sublist (35 :: L)
  ow : ∀ c ∈ ρ.ow, c ∈ L
  o1 : 1 ≤ ρ.ow.length
  o2 : ρ.ow.length ≤ 2
  be : ρ.be.Sublist (35 :: L)
  so : ∀ c ∈ ρ.so, 65 ≤ c ∧ c ≤ 90
  s3 : ρ.so.length ≤ 3
/-- the tuple at R holds the rules -/
def RulesAt (H : Hp) (R : Addr) (rs : List Rule) : Prop := ∃ ts : List Addr, H R = some (.tup (ts.map V.ref)) ∧ Paired (fun t ρ => H t = some (.tup (Rule.vs ρ))) ts rs
theorem paired_mono {α β : Type} {F G : α → β → Prop} (h : ∀ x y, F x y → G x y) : ∀ {xs : List α} {ys : List β}, Paired F xs ys → Paired G xs ys
  | _, _, .nil => .nil
  | _, _, .cons a b => .cons (h _ _ a) (paired_mono h b)
theorem paired_app {α β : Type} {F : α → β → Prop} : ∀ {xs : List α} {ys : List β} {xs' : List α} {ys' : List β}, Paired F xs ys → Paired F xs' ys' → Paired F (xs ++ xs') (ys ++ ys')
  | _, _, _, _, .nil, h => h
  | _, _, _, _, .cons a b, h => .cons a (paired_app b h)
theorem paired_len {α β : Type} {F : α → β → Prop} : ∀ {xs : List α} {ys : List β}, Paired F xs ys → xs.length = ys.length
  | _, _, .nil => rfl
  | _, _, .cons a b => by simp [paired_len b]
theorem paired_at {α β : Type} {F : α → β → Prop} : ∀ {xs : List α} {ys : List β}, Paired F xs ys → ∀ {i : Nat} {x : α}, xs[i]? = some x → ∃ y, ys[i]? = some y ∧ F x y
  | _, _, .nil, i, x, h => by cases h
  | _, _, .cons r t, 0, x, h => by
    have e := Option.some.inj h
    subst e
    exact ⟨_, rfl, r⟩
  | _, _, .cons r t, i + 1, x, h => paired_at t h
theorem paired_at' {α β : Type} {F : α → β → Prop} : ∀ {xs : List α} {ys : List β}, Paired F xs ys → ∀ {i : Nat} {y : β}, ys[i]? = some y → ∃ x, xs[i]? = some x ∧ F x y
  | _, _, .nil, i, x, h => by cases h
  | _, _, .cons r t, 0, x, h => by
    have e := Option.some.inj h
    subst e
    exact ⟨_, rfl, r⟩
  | _, _, .cons r t, i + 1, x, h => paired_at' t h
theorem RulesAt.kt {H H' : Hp} {R : Addr} {rs : List Rule} (h : RulesAt H R rs) (e : KT H H') : RulesAt H' R rs := by
  obtain ⟨ts, h1, h2⟩ := h
  exact ⟨ts, e.1 _ _ h1, paired_mono (fun t ρ q => e.1 _ _ q) h2⟩
theorem Stp.kt {r a : Addr} {H H' : Hp} (e : Stp r H H') (w : RowIn H r a) : KT H H' := KT.by fun t u h hu => by
  obtain ⟨i, c, m, q, _⟩ := w
  exact e t _ h (ne_of h q (by rcases hu with ⟨_, rfl⟩ | ⟨_, _, rfl⟩ <;> (intro z; cases z)))
theorem kt_new {H : Hp} {D : Addr} {o : HO} (h : H D = none) : KT H (upd H D o) := KT.of (same_new h o)
theorem kt_upd {H : Hp} {D : Addr} {l : List V} {o : HO} (h : H D = some (.lst l)) : KT H (upd H D o) := KT.by fun t u q hu => by
  rw [upd_ne (ne_of q h (by rcases hu with ⟨_, rfl⟩ | ⟨_, _, rfl⟩ <;> (intro z; cases z)))]
  exact q
end Say
namespace Say
open PySem PySem.Spec PyProof.Rows L2
/-- the built-in names that the text leaves alone -/
structure Bn (mg : Str → Option Value) : Prop where
  len : mg "len" = none
  rng : mg "range" = none
  tup : mg "tuple" = none
  lst : mg "list" = none
  isi : mg "isinstance" = none
  str : mg "str" = none
  all : mg "all" = none
  enu : mg "enumerate" = none
  srt : mg "sorted" = none
  bool : mg "bool" = none
def isText (l S : List Nat) (lo hi : Nat) : Bool := decide (lo ≤ l.length) && (decide (l.length ≤ hi) && l.all fun c => decide (c ∈ S))
theorem isText_of {l S : List Nat} {lo hi : Nat} (h1 : lo ≤ l.length) (h2 : l.length ≤ hi) (h3 : ∀ c ∈ l, c ∈ S) : isText l S lo hi = true := by
  unfold isText
  rw [decide_eq_true h1, decide_eq_true h2]
  simp only [Bool.true_and, List.all_eq_true, decide_eq_true_eq]
  exact h3
/-- each sign is more than the one ahead -/
def rises : List Nat → Bool
  | a :: b :: r => decide (a < b) && rises (b :: r)
  | _ => true
end Say
namespace Say
open PySem PySem.Spec PyProof.Rows L2
theorem atI_of {α : Type} {xs : List α} {z : Int} {j : Nat} {v : α} (h : xs[j]? = some v) (e : z = (j : Int)) : atI xs z = some v := by
  rw [e]
  exact atI_nat h
end Say
namespace Say
open PySem PySem.Spec PyProof.Rows L2
section
variable {P : Program} {w : World} {K : PySem.W.Frag} {mg : Str → Option Value} {base : Heap}
abbrev sIsText : Stmt := topS 39
theorem scIsText : FnScope ["text", "signs", "least", "most", "sign"] ["text", "signs", "least", "most"] (defScope sIsText) := ⟨rfl, rfl, rfl, by decide +kernel, rfl, by decide +kernel, by decide +kernel⟩
def spIsText : Sp := fun vs H Q _ => ∃ (l S : List Nat) (lo hi : Nat), vs = [.str (T l), .str (T S), .int lo, .int hi] ∧ l.length ≤ 100 ∧
  ∀ (H' : Hp), Same H H' → Q (.bl (isText l S lo hi)) H'
theorem ok_isText {f : Addr} {fd : FuncData} (F : Fun K "is_text" "is_text" sIsText f fd) (B : Bn mg) :
    FnOk P w K mg base CX0 1 f fd ["text", "signs", "least", "most"] spIsText := by
  refine F.ok scIsText (fun vs H Q E h => ?_) (fun cdv A outer s H vs Q E hr h => ?_)
  · obtain ⟨l, S, lo, hi, rfl, _⟩ := h
    rfl
  · obtain ⟨l, S, lo, hi, rfl, hz, q⟩ := h
    refine ⟨_, pss_cons (ps_if (PW.pt (pw_or (pt_not (pt_val (pe_callB call_isi (by rfl) B.isi (by decide +kernel) (pa_cons (pv 0) (pa_cons (pe_bltn (v := .ty "str") rfl B.str (by decide +kernel) rfl) pa_nil)))))
          (pw_or1 (pt_not (pt_chain op_le op_le (pv 2) (pe_callB call_len_str (by rfl) B.len PySem.boot_len (pa_cons (pv 0) pa_nil)) (pv 3)))))) (pss_one (ps_ret pe_bl)) pss_nil)
      (pss_one (ps_ret (pe_callB (cr_all rfl) (by rfl) B.all (by decide +kernel) (pa_cons (pe_lc (own := [("sign", 4)]) (g := gName 4) rfl scIsText.nd (pi_str (pv 0))
        (blkOk_by (N := ["text", "signs", "least", "most", "sign"]) (sc := defScope sIsText) (by decide +kernel)) (fun _ _ _ _ _ => pg_name (i := 4) scIsText.nd rfl (.inl rfl))
        (fun _ _ _ _ _ => pts_nil) (fun _ _ _ _ _ => pe_cmpR op_in_sign (pv 4) (pv 1) rfl)) pa_nil)))), ?_⟩
    refine ⟨_, rfl, _, _, .type "str", _, true, rfl, ClsV.ty _, .base (.str _), kit_ty (by decide +kernel), true, rfl, ?_⟩
    refine iteF ?_
    have hlen : (T l).length ≤ sizeLine := by rw [T_len]; exact small (by omega)
    refine ⟨_, rfl, _, rfl, _, rfl, hlen, _, _, rfl, rfl, _, rfl, ?_⟩
    have eT : (lo : Int) ≤ ((T l).length : Int) ↔ lo ≤ l.length := by rw [T_len]; omega
    have eU : ((T l).length : Int) ≤ (hi : Int) ↔ l.length ≤ hi := by rw [T_len]; omega
    refine ite2 (fun c1 => ?_) (fun c1 => ?_)
    · refine ⟨_, rfl, _, _, rfl, rfl, _, rfl, ?_⟩
      have c1' := eT.mp (of_decide_eq_true c1)
      by_cases c2 : ((T l).length : Int) ≤ (hi : Int)
      · rw [decide_eq_true c2]
        have c2' := eU.mp c2
        refine iteF ?_
        refine ⟨_, rfl, T l, rfl, fun D hD => ?_⟩
        refine lc_it (walk_str) (fun i H2 => H2 D = some (.lst (((l.take i).map fun c => decide (c ∈ S)).map V.bl)) ∧ Same H H2) ?_ (fun _ _ _ _ => trivial) ?_ ?_
        · exact ⟨upd_same, same_new hD _⟩
        · rintro i x H2 H2' hi' ⟨e1, e2⟩ ⟨rfl, c, hc, rfl⟩
          have hc := T_at hc
          refine ⟨rfl, ?_⟩
          refine ⟨_, rfl, _, rfl, c, T S, rfl, rfl, _, e1, ?_, ?_, ?_⟩
          · rw [List.length_map, List.length_map, List.length_take]
            exact small1000 (by omega)
          · rw [upd_same, take_next hc, List.map_append, List.map_append]
            rfl
          · exact fun b u q => by
              rw [upd_ne (ne_of_none q hD)]
              exact e2 b u q
        · rintro H2 ⟨e1, e2⟩
          rw [T_size, List.take_length] at e1
          refine ⟨D, _, rfl, .inl (.inl e1), ?_⟩
          have := q H2 e2
          unfold isText at this
          rw [decide_eq_true c1', decide_eq_true c2', Bool.true_and, Bool.true_and] at this
          rw [List.all_map]
          exact this
      · rw [decide_eq_false c2]
        refine iteT ?_
        have := q H (Same.refl H)
        unfold isText at this
        rw [decide_eq_false (fun z => c2 (eU.mpr z)), Bool.false_and, Bool.and_false] at this
        exact this
    · refine ⟨_, rfl, iteT ?_⟩
      have := q H (Same.refl H)
      unfold isText at this
      rw [decide_eq_false (fun z => c1 (decide_eq_true (eT.mpr z))), Bool.false_and] at this
      exact this
end
end Say
namespace Say
open PySem PySem.Spec PyProof.Rows L2
section
variable {P : Program} {w : World} {K : PySem.W.Frag} {mg : Str → Option Value} {base : Heap}
abbrev sRise : Stmt := topS 40
theorem scRise : FnScope ["text", "at"] ["text"] (defScope sRise) := ⟨rfl, rfl, rfl, by decide +kernel, rfl, by decide +kernel, by decide +kernel⟩
/-- the j-th sign against the next, for j below n -/
def risesTo (l : List Nat) (n : Nat) : List Bool := (List.range n).map fun j => decide ((l.getD j 0) < (l.getD (j + 1) 0))
theorem rises_range : ∀ l : List Nat, (risesTo l (l.length - 1)).all id = rises l
  | [] => rfl
  | [_] => rfl
  | a :: b :: r => by
    have ih := rises_range (b :: r)
    show (risesTo (a :: b :: r) (r.length + 1)).all id = (decide (a < b) && rises (b :: r))
    rw [← ih]
    unfold risesTo
    rw [List.range_succ_eq_map, List.map_cons, List.map_map, List.all_cons]
    rfl
theorem risesTo_next (l : List Nat) (n : Nat) : risesTo l (n + 1) = risesTo l n ++ [decide ((l.getD n 0) < (l.getD (n + 1) 0))] := by
  unfold risesTo
  rw [List.range_succ, List.map_append]
  rfl
theorem risesTo_len (l : List Nat) (n : Nat) : (risesTo l n).length = n := by
  unfold risesTo
  rw [List.length_map, List.length_range]
def spRise : Sp := fun vs H Q _ => ∃ (l : List Nat), vs = [.str (T l)] ∧ l.length ≤ 100 ∧ ∀ (H' : Hp), Same H H' → Q (.bl (rises l)) H'
theorem lt_one (a b : Nat) : decide (([a] : List Nat) < [b]) = decide (a < b) := by
  by_cases h : a < b
  · rw [decide_eq_true h, decide_eq_true]
    exact List.Lex.rel h
  · rw [decide_eq_false h, decide_eq_false]
    intro z
    cases z with
    | rel q => exact h q
    | cons q => cases q
theorem ok_rise {f : Addr} {fd : FuncData} (F : Fun K "is_rising" "is_rising" sRise f fd) (B : Bn mg) : FnOk P w K mg base CX0 1 f fd ["text"] spRise := by
  refine F.ok scRise (fun vs H Q E h => ?_) (fun cdv A outer s H vs Q E hr h => ?_)
  · obtain ⟨l, rfl, _⟩ := h
    rfl
  · obtain ⟨l, rfl, hz, q⟩ := h
    have hlen : (T l).length ≤ sizeLine := by rw [T_len]; exact small (by omega)
    refine ⟨_, pss_one (ps_ret (pe_callB (cr_all rfl) (by rfl) B.all (by decide +kernel) (pa_cons (pe_lc (own := [("at", 1)]) (g := gName 1) rfl scRise.nd
        (pi_range2 rfl B.rng (pa_cons pe_int (pa_cons (pe_callB call_len_str (by rfl) B.len PySem.boot_len (pa_cons (pv 0) pa_nil)) pa_nil)))
        (blkOk_by (N := ["text", "at"]) (sc := defScope sRise) (by decide +kernel)) (fun _ _ _ _ _ => pg_name (i := 1) scRise.nd rfl (.inl rfl))
        (fun _ _ _ _ _ => pts_nil) (fun _ _ _ _ _ => pe_cmpR op_lt_str (pe_ix ix_str (pv 0) (pe_op op_sub (pv 1) pe_int) (fun _ _ => rfl)) (pe_ix ix_str (pv 0) (pv 1) (fun _ _ => rfl)) (nomark _))) pa_nil))), ?_⟩
    refine ⟨_, rfl, _, rfl, hlen, 1, _, rfl, ⟨by decide, by decide, by omega, by rw [T_len]; omega⟩, fun D hD => ?_⟩
    refine lc_it (walk_range) (fun i H2 => H2 D = some (.lst ((risesTo l i).map V.bl)) ∧ Same H H2) ?_ (fun _ _ _ _ => trivial) ?_ ?_
    · exact ⟨upd_same, same_new hD _⟩
    · rintro i x H2 H2' hi' ⟨e1, e2⟩ ⟨rfl, rfl⟩
      rw [T_len] at hi'
      have g1 : i < l.length := by omega
      have g2 : i + 1 < l.length := by omega
      refine ⟨rfl, ?_⟩
      have q1 : (T l).cps.toList[i]? = some (l.getD i 0) := by rw [T_cps, List.getD_eq_getElem?_getD, List.getElem?_eq_getElem g1]; rfl
      have q2 : (T l).cps.toList[i + 1]? = some (l.getD (i + 1) 0) := by rw [T_cps, List.getD_eq_getElem?_getD, List.getElem?_eq_getElem g2]; rfl
      refine ⟨_, rfl, _, rfl, _, _, rfl, rfl, T l, 1 + (i : Int) - 1, l.getD i 0, rfl, rfl, hlen, atI_of q1 (by omega), ?_⟩
      refine ⟨_, rfl, _, rfl, T l, 1 + (i : Int), l.getD (i + 1) 0, rfl, rfl, hlen, atI_of q2 (by omega), ?_⟩
      refine ⟨_, _, rfl, rfl, _, e1, ?_, ?_, ?_⟩
      · rw [List.length_map, risesTo_len]
        exact small1000 (by omega)
      · rw [upd_same, risesTo_next, List.map_append]
        show some (HO.lst (_ ++ [V.bl (decide (([l.getD i 0] : List Nat) < [l.getD (i + 1) 0]))])) = _
        rw [lt_one]
        rfl
      · exact fun b u q => by
          rw [upd_ne (ne_of_none q hD)]
          exact e2 b u q
    · rintro H2 ⟨e1, e2⟩
      rw [show (((T l).length : Int) - 1).toNat = l.length - 1 by rw [T_len]; omega] at e1
      refine ⟨D, _, rfl, .inl (.inl e1), ?_⟩
      rw [rises_range]
      exact q H2 e2
end
end Say
namespace Say
open PySem PySem.Spec PyProof.Rows L2
/-- the letters of a book -/
structure LetOk (L : List Nat) : Prop where
  l2 : 2 ≤ L.length
  l4 : L.length ≤ 4
  up : rises L = true
  az : ∀ c ∈ L, 97 ≤ c ∧ c ≤ 122
theorem rises_iff : ∀ l : List Nat, rises l = true ↔ l.Pairwise (· < ·)
  | [] => by simp [rises]
  | [a] => by simp [rises]
  | a :: b :: r => by
    have ih := rises_iff (b :: r)
    show (decide (a < b) && rises (b :: r)) = true ↔ _
    rw [Bool.and_eq_true, ih, List.pairwise_cons (a := a)]
    constructor
    · rintro ⟨h1, h2⟩
      have h1 := of_decide_eq_true h1
      refine ⟨fun x hx => ?_, h2⟩
      rcases List.mem_cons.mp hx with rfl | hx
      · exact h1
      · exact Nat.lt_trans h1 ((List.pairwise_cons.mp h2).1 x hx)
    · rintro ⟨h1, h2⟩
      exact ⟨decide_eq_true (h1 b (List.mem_cons_self ..)), h2⟩
theorem LetOk.hash {L : List Nat} (h : LetOk L) : rises (35 :: L) = true := (rises_iff _).mpr (List.pairwise_cons.mpr ⟨fun c hc => by have := (h.az c hc).1; omega, (rises_iff _).mp h.up⟩)
theorem side_ok {L z : List Nat} (h : LetOk L) (s : z.Sublist (35 :: L)) : (isText z (35 :: L) 0 (L.length + 1) && rises z) = true := by
  rw [Bool.and_eq_true]
  exact ⟨isText_of (Nat.zero_le _) (by have := s.length_le; simpa using this) fun c hc => s.subset hc, (rises_iff _).mpr (((rises_iff _).mp h.hash).sublist s)⟩
/-- a constant that holds a number -/
abbrev KI (mg : Str → Option Value) (x : Str) (n : Int) : Prop := ∃ t, mg x = some (.int n t)
/-- what the module's constants hold -/
structure Cn (mg : Str → Option Value) : Prop where
  small : ∃ t, mg "SMALL" = some (.str "abcdefghijklmnopqrstuvwxyz" t)
  caps : ∃ t, mg "CAPITALS" = some (.str "ABCDEFGHIJKLMNOPQRSTUVWXYZ" t)
  edge : ∃ t, mg "EDGE" = some (.str "#" t)
  mrul : ∃ t, mg "MOST_RULES" = some (.int 12 t)
  lexc : ∃ t, mg "LONGEST_EXCEPTION" = some (.int 8 t)
  lrs : ∃ t, mg "LONGEST_RULE_SOUNDS" = some (.int 3 t)
  lso : ∃ t, mg "LONGEST_SOUNDS" = some (.int 36 t)
def smallL : List Nat := (List.range 26).map (· + 97)
def capsL : List Nat := (List.range 26).map (· + 65)
theorem small_eq : Str.ofString "abcdefghijklmnopqrstuvwxyz" = T smallL := by decide +kernel
theorem caps_eq : Str.ofString "ABCDEFGHIJKLMNOPQRSTUVWXYZ" = T capsL := by decide +kernel
theorem mem_small {c : Nat} (h : 97 ≤ c ∧ c ≤ 122) : c ∈ smallL := List.mem_map.mpr ⟨c - 97, List.mem_range.mpr (by omega), by omega⟩
theorem mem_caps {c : Nat} (h : 65 ≤ c ∧ c ≤ 90) : c ∈ capsL := List.mem_map.mpr ⟨c - 65, List.mem_range.mpr (by omega), by omega⟩
section
variable {P : Program} {w : World} {K : PySem.W.Frag} {mg : Str → Option Value} {base : Heap}
abbrev psIsText : List Str := ["text", "signs", "least", "most"]
abbrev sBeside : Stmt := topS 35
theorem scBeside : FnScope ["letters", "signs"] ["letters", "signs"] (defScope sBeside) := ⟨rfl, rfl, rfl, by decide +kernel, rfl, by decide +kernel, by decide +kernel⟩
def spBeside : Sp := fun vs H Q _ => ∃ (L z : List Nat), vs = [.str (T L), .str (T z)] ∧ L.length ≤ 50 ∧ z.length ≤ 100 ∧ ∀ (H' : Hp), Same H H' → Q (.bl (isText z (35 :: L) 0 (L.length + 1) && rises z)) H'
theorem ok_beside {f : Addr} {fd : FuncData} (F : Fun K "is_beside" "is_beside" sBeside f fd) (B : Bn mg) (C : Cn mg) (DT : Df P w K mg base "is_text" psIsText 1 spIsText) (DR : Df P w K mg base "is_rising" ["text"] 1 spRise) :
    FnOk P w K mg base CX0 2 f fd ["letters", "signs"] spBeside := by
  obtain ⟨fT, fdT, GT, kT, bT, mT⟩ := DT
  obtain ⟨fR, fdR, GR, kR, bR, mR⟩ := DR
  obtain ⟨tE, mE⟩ := C.edge
  refine F.ok scBeside (fun vs H Q E h => ?_) (fun cdv A outer s H vs Q E hr h => ?_)
  · obtain ⟨L, z, rfl, _⟩ := h
    rfl
  · obtain ⟨L, z, rfl, hL, hz, q⟩ := h
    refine ⟨_, pss_one (ps_ret (pe_and (pe_call GT hr (by rfl) mT kT bT .nil pass0 (pa_cons (pv 1) (pa_cons (pe_op op_add_str (pe_glob (v := .str "#") rfl mE ⟨_, rfl⟩) (pv 0)) (pa_cons pe_int (pa_cons (pe_op op_add (pe_callB call_len_str (by rfl) B.len PySem.boot_len (pa_cons (pv 0) pa_nil)) pe_int) pa_nil)))))
        (pe_one (pe_call GR hr (by rfl) mR kR bR .nil pass0 (pa_cons (pv 1) pa_nil))))), ?_⟩
    have hl : (T L).length ≤ sizeLine := by rw [T_len]; exact small (by omega)
    refine ⟨_, rfl, _, rfl, _, _, rfl, rfl, (by rw [len_hash, T_len]; exact small (by omega)), _, rfl, _, rfl, hl, _, _, rfl, rfl, z, 35 :: L, 0, L.length + 1, ?_, hz, fun H1 s1 => ?_⟩
    · rw [hash_app, T_len]
      rfl
    refine ⟨_, rfl, ite2 (fun c => ?_) (fun c => ?_)⟩
    · refine ⟨_, rfl, z, rfl, hz, fun H2 s2 => ?_⟩
      have := q H2 (s1.trans s2)
      rw [c, Bool.true_and] at this
      exact this
    · have := q H1 s1
      rw [Bool.eq_false_iff.mpr c, Bool.false_and] at this
      exact this
abbrev sIsRule : Stmt := topS 34
theorem scIsRule : FnScope ["letters", "rule", "ahead", "own", "behind", "sounds"] ["letters", "rule"] (defScope sIsRule) := ⟨rfl, rfl, rfl, by decide +kernel, rfl, by decide +kernel, by decide +kernel⟩
def spIsRule : Sp := fun vs H Q _ => ∃ (L : List Nat) (t : Addr) (ρ : Rule), vs = [.str (T L), .ref t] ∧ H t = some (.tup ρ.vs) ∧ LetOk L ∧ RuleOk L ρ ∧ ∀ (H' : Hp), Same H H' → Q (.bl true) H'
theorem ok_isRule {f : Addr} {fd : FuncData} (F : Fun K "is_rule" "is_rule" sIsRule f fd) (B : Bn mg) (C : Cn mg) (DT : Df P w K mg base "is_text" psIsText 1 spIsText) (DB : Df P w K mg base "is_beside" ["letters", "signs"] 2 spBeside) :
    FnOk P w K mg base CX0 3 f fd ["letters", "rule"] spIsRule := by
  obtain ⟨fT, fdT, GT, kT, bT, mT⟩ := DT
  obtain ⟨fB, fdB, GB, kB, bB, mB⟩ := DB
  obtain ⟨tC, mC⟩ := C.caps
  obtain ⟨tS, mS⟩ := C.lrs
  refine F.ok scIsRule (fun vs H Q E h => ?_) (fun cdv A outer s H vs Q E hr h => ?_)
  · obtain ⟨L, t, ρ, rfl, _⟩ := h
    rfl
  · obtain ⟨L, t, ρ, rfl, ht, hL, hρ, q⟩ := h
    have hr1 : Room 1 _ := hr.mono (by decide)
    refine ⟨_, pss_cons (ps_if (PW.pt (pw_or (pt_not (pt_val (pe_callB call_isi (by rfl) B.isi (by decide +kernel) (pa_cons (pv 1) (pa_cons (pe_bltn (v := .ty "tuple") rfl B.tup (by decide +kernel) rfl) pa_nil)))))
          (pw_or1 (pt_cmpR op_ne (pe_callB call_len (by rfl) B.len PySem.boot_len (pa_cons (pv 1) pa_nil)) pe_int (nomark _))))) (pss_one (ps_ret pe_bl)) pss_nil)
      (pss_cons (ps_asg (pv 1) (pg_tup (by rfl) (pgs_cons (pg_name (i := 2) scIsRule.nd rfl (.inl rfl)) (pgs_cons (pg_name (i := 3) scIsRule.nd rfl (.inl rfl)) (pgs_cons (pg_name (i := 4) scIsRule.nd rfl (.inl rfl)) (pgs_cons (pg_name (i := 5) scIsRule.nd rfl (.inl rfl)) pgs_nil))))))
      (pss_one (ps_ret (pe_and (pe_call GB hr (by rfl) mB kB bB .nil pass0 (pa_cons (pv 0) (pa_cons (pv 2) pa_nil)))
        (pe_and (pe_call GT hr1 (by rfl) mT kT bT .nil pass0 (pa_cons (pv 3) (pa_cons (pv 0) (pa_cons pe_int (pa_cons pe_int pa_nil)))))
        (pe_and (pe_call GB hr (by rfl) mB kB bB .nil pass0 (pa_cons (pv 0) (pa_cons (pv 4) pa_nil)))
        (pe_one (pe_call GT hr1 (by rfl) mT kT bT .nil pass0 (pa_cons (pv 5) (pa_cons (pe_glob (v := .str "ABCDEFGHIJKLMNOPQRSTUVWXYZ") rfl mC ⟨_, rfl⟩) (pa_cons pe_int (pa_cons (pe_glob (v := .int 3) rfl mS ⟨_, rfl⟩) pa_nil)))))))))))), ?_⟩
    have l5 := hρ.ah.length_le
    have l6 := hρ.be.length_le
    rw [List.length_cons] at l5 l6
    have l4 := hL.l4
    refine ⟨_, rfl, _, _, .type "tuple", _, true, rfl, ClsV.ty _, .base (.tup ht), kit_ty (by decide +kernel), true, rfl, iteF ?_⟩
    refine ⟨_, rfl, _, 4, rfl, .inr ⟨_, .inl (.inl ht), rfl⟩, rfl, _, rfl, iteF ?_⟩
    refine ⟨_, rfl, t, _, rfl, .inl (.inl ht), rfl, _, _, rfl, _, _, rfl, _, _, rfl, _, _, rfl, rfl, ?_⟩
    refine ⟨_, rfl, _, rfl, L, ρ.ah, rfl, by omega, by omega, fun H1 s1 => ?_⟩
    refine ⟨_, rfl, ?_⟩
    rw [side_ok hL hρ.ah]
    refine iteT ?_
    refine ⟨_, rfl, _, rfl, ρ.ow, L, 1, 2, rfl, (by have := hρ.o2; omega), fun H2 s2 => ?_⟩
    refine ⟨_, rfl, ?_⟩
    rw [isText_of hρ.o1 hρ.o2 hρ.ow]
    refine iteT ?_
    refine ⟨_, rfl, _, rfl, L, ρ.be, rfl, by omega, by omega, fun H3 s3 => ?_⟩
    refine ⟨_, rfl, ?_⟩
    rw [side_ok hL hρ.be]
    refine iteT ?_
    refine ⟨_, rfl, ρ.so, capsL, 0, 3, (by rw [caps_eq]; rfl), (by have := hρ.s3; omega), fun H4 s4 => ?_⟩
    rw [isText_of (Nat.zero_le _) hρ.s3 fun c hc => mem_caps (hρ.so c hc)]
    exact q H4 (s1.trans (s2.trans (s3.trans s4)))
end
end Say
namespace PySem
open Sem (wp)
open AutoSeq1 (wpAny_loadPart')
/-- enumerate(tuple): what the making of it meets -/
theorem say_meets_enumT (l : Addr) (o0 : Obj) (items : Array Value) (n : Nat) (clC : o0.cls = .type "tuple") (dtD : o0.data = .seq items n) :
    Meets (Builtin.«enumerate.__new__» ⟨[.type "enumerate", .ref l], []⟩) (fun _ R s => s.heap.get? l = some o0 ∧
      R (.ok (.ret (.ref (s.heap.push { cls := .type "tuple_iterator", data := .fields #[.ref l, .int 0 0] }).objs.size)))
        { s with heap := (s.heap.push { cls := .type "tuple_iterator", data := .fields #[.ref l, .int 0 0] }).push { cls := .type "enumerate", data := .fields #[.none, .bool false, .ref s.heap.objs.size, rawInt 0, .none, .none] } }) :=
  .of_wp fun prog w A R s h => by
    obtain ⟨txP, g, d, tkn, os⟩ := s; obtain ⟨lnT, h⟩ := h
    obtain ⟨oc, od, dt, osl⟩ := o0
    replace clC : oc = .type "tuple" := clC
    replace dtD : dt = .seq items n := dtD
    subst clC dtD
    have hsub := sub_enumerate
    have hL : Heap.IsTuple (Shared.heap ⟨txP, g, d, tkn, os⟩) l items := ⟨_, lnT, rfl, n, rfl⟩
    wp_walk using wpAny_loadPart' lnT
    refine wpAny_stack_any fun sta => wpAny_pure ?_
    split
    · rename_i c _ _ _ _ _
      cases (c == Value.type "enumerate")
      · wp_walk using wpAny_loadPart' lnT, wpAny_pyIter_tuple hL
        exact ⟨_, rfl, h⟩
      · wp_walk using wpAny_loadPart' lnT, wpAny_pyIter_tuple hL
        exact ⟨_, rfl, h⟩
    · wp_walk using wpAny_loadPart' lnT, wpAny_pyIter_tuple hL
      exact ⟨_, rfl, h⟩
section
variable {prog : Program} {w : World} {A : Around} {E : Value → Shared → Prop} {s : Shared}
theorem say_call_enumT {l : Addr} {items : Array Value} {Q : Value → Shared → Prop} (hL : s.heap.IsTuple l items)
    (h : ∀ h', IsEnum h' (s.heap.objs.size + 1) s.heap.objs.size 0 .none → h'.IsTupleIter s.heap.objs.size l 0 → h'.objs.size = s.heap.objs.size + 2 →
      (∀ b o, s.heap.get? b = some o → h'.get? b = some o) → Q (.ref (s.heap.objs.size + 1)) { s with heap := h' }) :
    wpAny (model prog w) A (call (.type "enumerate") [.ref l]) Q E s := by
  obtain ⟨o0, lnT, clC, n, dtD⟩ := hL
  refine callType_new F.called_enumerate (by decide) (F.typeCall_enumerate_1 _) (F.newCall_enumerate_1 _) (fun obj => F.args_object_init_2 obj _) F.entry_enumerate_new
    (say_meets_enumT l o0 items n clC dtD) ⟨lnT, ?_⟩
  have szT : (s.heap.push { cls := .type "tuple_iterator", data := .fields #[.ref l, .int 0 0] }).objs.size = s.heap.objs.size + 1 := Heap.size_push ..
  show _ ∧ _
  rw [szT]
  have hEn : IsEnum ((s.heap.push { cls := .type "tuple_iterator", data := .fields #[.ref l, .int 0 0] }).push
      { cls := .type "enumerate", data := .fields #[.none, .bool false, .ref s.heap.objs.size, rawInt 0, .none, .none] }) (s.heap.objs.size + 1) s.heap.objs.size 0 .none := by
    have := Heap.get?_push_size (s.heap.push { cls := .type "tuple_iterator", data := .fields #[.ref l, .int 0 0] })
      (o := { cls := .type "enumerate", data := .fields #[.none, .bool false, .ref s.heap.objs.size, rawInt 0, .none, .none] }) rfl
    rw [szT] at this; exact this
  refine ⟨⟨_, hEn, rfl⟩, h _ hEn ⟨_, Heap.get?_push_of_some _ (Heap.get?_push_size _ rfl), rfl, rfl⟩ (by rw [Heap.size_push, szT]) fun b o x => Heap.get?_push_of_some _ (Heap.get?_push_of_some _ x)⟩
theorem say_enumT_end {e it l : Addr} {i : Nat} {j : Int} {items : Array Value} {was : Value} {Q : Option Value → Shared → Prop} (noH : A.handled = none)
    (hEn : IsEnum s.heap e it j was) (hTi : s.heap.IsTupleIter it l i) (lnT : s.heap.IsTuple l items) (atI0 : items[i]? = none)
    (hQ : ∀ h', Heap.ExtBut it s.heap h' → Q none { s with heap := h' }) : wpAny (model prog w) A (pyNext (.ref e)) Q E s := by
  have isTup : s.TypeIs (.ref e) "enumerate" := ⟨_, hEn, rfl⟩
  unfold pyNext
  refine wpAny_bind (wpAny_attempt (wpAny_callSpecial?_slot (name := Str.ofString "__next__") isTup F.slot_enumerate_next
    (wpAny_call_entry F.slot_enumerate_next isTup F.entry_enumerate_next ?_ (F.args_enumerate_next_1 _))))
  show wpAny _ _ (field (.ref e) 2 >>= _) _ _ _
  refine wpAny_bind (wpAny_field hEn rfl (x := .ref it) rfl ?_)
  refine wpAny_bind (wpAny_nextOf_tuple_end noH hTi lnT atI0 fun h' x he' hx' => ?_)
  obtain ⟨o, obO, clC⟩ := hx'
  refine wpAny_bind (wpAny_isInstance (T := "StopIteration") (b := true) ⟨o, obO, clC⟩ isSubtype_stop ?_)
  exact wpAny_pure (hQ _ he')
end
end PySem
namespace Say
open PySem PySem.Spec PyProof.Rows L2
/-- the tuple at a adrs it stands at each turn, each item in a new pair -/
def IteT (K : PySem.W.Frag) (a : Addr) : It :=
  ⟨fun i H => ∃ (xs : List V) (x : V), SqT K H a xs ∧ xs[i]? = some x, fun i H v H' => ∃ T x, v = .ref T ∧ H T = none ∧ H' = upd H T (.tup [.int (i : Nat), x]) ∧ ∀ xs, SqT K H a xs → xs[i]? = some x, fun i H => ∃ xs : List V, SqT K H a xs ∧ xs.length ≤ i⟩
theorem enum_ne {h : Heap} {e it a : Addr} {i : Int} {was : Value} {items : Array Value} (hEn : IsEnum h e it i was) (isTup : h.IsTuple a items) : e ≠ a := fun z => by
  subst z
  obtain ⟨o, obO, clC, _⟩ := isTup
  have hEn : h.get? e = some _ := hEn
  rw [hEn] at obO
  cases obO
  exact absurd (Value.type.inj clC) (by decide)
theorem tit_ne {h : Heap} {it a : Addr} {i : Nat} {items : Array Value} (hEn : h.IsTupleIter it a i) (isTup : h.IsTuple a items) : a ≠ it := fun z => by
  subst z
  obtain ⟨o, obO, clC, _⟩ := isTup
  obtain ⟨o', ho', hc', _⟩ := hEn
  rw [obO] at ho'
  cases ho'
  rw [clC] at hc'
  exact absurd (Value.type.inj hc') (by decide)
theorem turn_enumT {P : Program} {w : World} {K : PySem.W.Frag} {els : List Expr} {k9 : Nat} {tps0 : Pos} (a e it : Addr) :
    Turn P w K (.Tuple els k9 tps0) (IteT K a) [e, it] e (fun i h => (∃ was, IsEnum h e it ((i : Nat) : Int) was) ∧ h.IsTupleIter it a i ∧ e ≠ it) where
  mem := by simp
  obj := fun i h sta b hb => by
    obtain ⟨⟨was, hEn⟩, ⟨o, obO, clC, dtD⟩, _⟩ := sta
    have e' : b = e ∨ b = it := by simpa using hb
    rcases e' with z | z
    · rw [z]; exact ⟨_, hEn, fun v q => nomatch q⟩
    · rw [z]; exact ⟨o, obO, fun v q => by rw [dtD] at q; cases q⟩
  keep := fun i h h' sta k => let ⟨⟨was, hEn⟩, hi, hAp⟩ := sta; ⟨⟨was, k e (by simp) _ hEn⟩, hi.at fun o q => k it (by simp) o q, hAp⟩
  item := by
    intro X hP hw hK clC i pn s σ H E I fresh0 sta gW
    subst hP hw hK
    obtain ⟨⟨was, hEn⟩, hTi, hAp⟩ := sta
    obtain ⟨xs, x, isT, atI0⟩ := gW
    obtain ⟨its, rel, p, szT⟩ := I.tuple isT
    have p : s.heap.IsTuple a its.toArray := p
    obtain ⟨u, getU, relU⟩ := rel.get atI0
    have ltE : e < s.heap.objs.size := Heap.lt_size hEn
    have ltI : it < s.heap.objs.size := by obtain ⟨_, q, _⟩ := hTi; exact Heap.lt_size q
    have ltN : i < its.toArray.size := by
      have := (List.getElem?_eq_some_iff.mp getU).1
      simpa using this
    refine wpAny_pyNext_enum_itemD (Draws.tuple (show X.A.in1.handled = none from I.ok.hd clC) it a (tit_ne hTi p) its.toArray) hEn ⟨hTi, p⟩ ltN hAp (by
      simp only [List.mem_cons, List.not_mem_nil, or_false, not_or]
      exact ⟨hAp, enum_ne hEn p⟩) fun u' h' tkn hu' obO hst' isTup szH kpT => ?_
    have eu : u' = u := by
      have h1 : its.toArray[i]? = some u' := hu'
      rw [List.getElem?_toArray, getU] at h1
      exact (Option.some.inj h1).symm
    subst eu
    obtain ⟨hit', p'⟩ := hst'
    refine ⟨_, rfl, wpAny_letOwnedTupleGo_enum (s := { s with heap := h', toks := tkn + 1 }) obO fun h'' he' butE => ?_⟩
    have hT2 : h''.get? s.heap.objs.size = some { cls := .type "tuple", data := .seq #[.int i tkn, u'] } := (butE.2 _ (Nat.ne_of_gt ltE)).trans isTup
    have new : ObjOk X.prog X.w (upd H s.heap.objs.size (.tup [.int (i : Nat), x])) h'' s.heap.objs.size (.tup [.int (i : Nat), x]) :=
      ⟨by show 2 ≤ sizeLine; decide, [.int i tkn, u'], .cons ⟨_, rfl⟩ (.cons relU .nil), ⟨_, hT2, rfl, _, rfl⟩⟩
    have I1 : Inv X pn σ (upd H s.heap.objs.size (.tup [.int (i : Nat), x])) { s with heap := h'', toks := tkn + 1 } :=
      I.turnedNew (ch := [e, it]) (fun b ob hb q => (butE.2 b (fun z => hb (by simp [z]))).trans (kpT b ob (fun z => hb (by simp [z])) (fun z => hb (by simp [z])) q)) fresh0 (Nat.le_refl _) new
    refine ⟨.ref s.heap.objs.size, _, I1, rfl, ⟨_, x, rfl, I.hok.fresh (Nat.le_refl _), rfl, fun ys hy => by rw [I.tuple_inj hy isT]; exact atI0⟩, ⟨⟨u', ?_⟩, hit'.at fun o q => (butE.2 it (Ne.symm hAp)).trans q, hAp⟩, fun b hb => ?_⟩
    · have q1 : ((i + 1 : Nat) : Int) = (i : Int) + 1 := by omega
      rw [q1]; exact he'
    · have hb' : b < s.heap.objs.size := by
        have e' : b = e ∨ b = it := by simpa using hb
        rcases e' with z | z
        · rw [z]; exact ltE
        · rw [z]; exact ltI
      rw [upd_ne (Nat.ne_of_lt hb')]
      exact (fresh0 b hb).1
  done := by
    intro X hP hw hK clC i pn s σ H E I fresh0 sta gW
    subst hP hw hK
    obtain ⟨⟨was, hEn⟩, hTi, hAp⟩ := sta
    obtain ⟨xs, isT, atI0⟩ := gW
    obtain ⟨its, rel, p, szT⟩ := I.tuple isT
    have p : s.heap.IsTuple a its.toArray := p
    obtain ⟨f0, f1, f2, f3, f4, f5⟩ := fresh0 it (by simp)
    have hl := rel.length
    exact say_enumT_end (I.ok.hd clC) hEn hTi p (by rw [List.getElem?_toArray]; exact List.getElem?_eq_none (by omega)) fun h' eb => ⟨rfl, I.turned (t' := s.toks) (fun b o hb q => eb b o hb q) f0 f1 f3 f4 f5⟩
  self := fun A i s Q E sta h => let ⟨⟨_, hEn⟩, _⟩ := sta; wpAny_pyIter_enum hEn h
def iEnumT (K : PySem.W.Frag) (ta : TA) : TI := fun σ H R => ta σ H fun vs H1 => ∃ a xs, vs = [.ref a] ∧ SqT K H1 a xs ∧ R (IteT K a) H1
theorem pi_enumT {X : Cx} {e : Expr} {ta : TA} {p pos tps0 : Pos} {els : List Expr} {k9 : Nat} (gW : Gl X "enumerate") (hm : X.mg "enumerate" = none) (atA : PA X [e] ta) (hs : starEach [e] X.env = [(false, eval e X.env)] := by rfl) :
    PI X (.Tuple els k9 tps0) (.Call (.Name "enumerate" p) [e] [] pos) (iEnumT X.K ta) := by
  refine ⟨fun pn s σ H R I h => ?_⟩
  refine Call_ (ld_blt I gW hm boot_enumerate (PyProof.Rows.callWith_type1 (thn (atA.run pos pn s σ H _ I h) fun args s1 ⟨vs, H1, I1, r1, q1⟩ => ?_) hs rfl))
  obtain ⟨a, xs, ex, isT, q⟩ := q1
  subst ex
  cases r1 with
  | cons r rst =>
    cases rst
    cases r
    obtain ⟨its, rel, p', szT⟩ := I1.tuple isT
    refine say_call_enumT (show s1.heap.IsTuple a its.toArray from p') fun h' hEn hTi szH kpT => wpAny_pyIter_enum hEn ?_
    have I2 : Inv X pn σ H1 { s1 with heap := h' } := I1.kept (t' := s1.toks) kpT
    refine ⟨s1.heap.objs.size + 1, [s1.heap.objs.size + 1, s1.heap.objs.size], _, _, H1, rfl, I2, turn_enumT a (s1.heap.objs.size + 1) s1.heap.objs.size, ⟨⟨.none, hEn⟩, hTi, Nat.succ_ne_self _⟩, fun b hb => ?_, q⟩
    have e' : b = s1.heap.objs.size + 1 ∨ b = s1.heap.objs.size := by simpa using hb
    have hle : s1.heap.objs.size ≤ b := by
      rcases e' with z | z
      · rw [z]; exact Nat.le_add_right _ _
      · rw [z]; exact Nat.le_refl _
    exact I1.fpOk hle (I1.hok.fresh hle)
theorem walk_enumT {K : PySem.W.Frag} {a : Addr} {xs : List V} : Walk (IteT K a) xs.length (fun H => SqT K H a xs) (YPair (fun i => some (.int (i : Nat))) (fun i => xs[i]?)) := by
  refine ⟨fun i _ hi q => ⟨xs, xs[i], q, by simp [hi]⟩, fun _ q => ⟨xs, q, Nat.le_refl _⟩, fun i H v H' _ q y => ?_⟩
  obtain ⟨T, x, h1, h2, h3, h4⟩ := y
  exact ⟨T, .int (i : Nat), x, h1, h2, h3, rfl, h4 xs q⟩
end Say
namespace Say
open PySem PySem.Spec PyProof.Rows L2
abbrev Exc := List Nat × List Nat
/-- an exception of a book of the letters L -/
structure ExcOk (L : List Nat) (e : Exc) : Prop where
  w : ∀ c ∈ e.1, c ∈ L
  w1 : 1 ≤ e.1.length
  w8 : e.1.length ≤ 8
  s : ∀ c ∈ e.2, 65 ≤ c ∧ c ≤ 90
  s36 : e.2.length ≤ 36
/-- a tuple as it was made: with no attributes of its own -/
def TupN (H : Hp) (a : Addr) (xs : List V) : Prop := ∃ o : Obj, H a = some (.frz o (.tup xs)) ∧ o.dict = none
theorem TupN.kt {H H' : Hp} {a : Addr} {xs : List V} (h : TupN H a xs) (e : KT H H') : TupN H' a xs := ⟨h.choose, e.2 _ _ _ h.choose_spec.1, h.choose_spec.2⟩
theorem TupN.rd {H : Hp} {a : Addr} {xs : List V} (h : TupN H a xs) : Rd H a (.tup xs) := .inr ⟨_, h.choose_spec.1⟩
def ExcsAt (H : Hp) (X : Addr) (es : List Exc) : Prop := ∃ ts : List Addr, TupN H X (ts.map V.ref) ∧ Paired (fun t (e : Exc) => H t = some (.tup [.str (T e.1), .str (T e.2)])) ts es
theorem ExcsAt.kt {H H' : Hp} {X : Addr} {es : List Exc} (h : ExcsAt H X es) (e : KT H H') : ExcsAt H' X es := by
  obtain ⟨ts, h1, h2⟩ := h
  exact ⟨ts, h1.kt e, paired_mono (fun t ρ q => e.1 _ _ q) h2⟩
structure BookOk (L : List Nat) (rs : List Rule) (es : List Exc) : Prop where
  lt : LetOk L
  rl : ∀ ρ ∈ rs, RuleOk L ρ
  r12 : rs.length ≤ 12
  ex : ∀ e ∈ es, ExcOk L e
  e8 : es.length ≤ 8
  up : es.Pairwise fun e f => e.1 < f.1
def BookAt (H : Hp) (b : Addr) (L : List Nat) (rs : List Rule) (es : List Exc) : Prop := ∃ R X, H b = some (.tup [.str (T L), .ref R, .ref X]) ∧ RulesAt H R rs ∧ ExcsAt H X es
theorem BookAt.kt {H H' : Hp} {b : Addr} {L : List Nat} {rs : List Rule} {es : List Exc} (h : BookAt H b L rs es) (e : KT H H') : BookAt H' b L rs es := by
  obtain ⟨R, X, h1, h2, h3⟩ := h
  exact ⟨R, X, e.1 _ _ h1, h2.kt e, h3.kt e⟩
section
variable {P : Program} {w : World} {K : PySem.W.Frag} {mg : Str → Option Value} {base : Heap}
abbrev sExcd : Stmt := topS 37
theorem scExcd : FnScope ["letters", "word"] ["letters", "word"] (defScope sExcd) := ⟨rfl, rfl, rfl, by decide +kernel, rfl, by decide +kernel, by decide +kernel⟩
def spExcd : Sp := fun vs H Q _ => ∃ (L z : List Nat), vs = [.str (T L), .str (T z)] ∧ z.length ≤ 100 ∧ ∀ (H' : Hp), Same H H' → Q (.bl (isText z L 1 8)) H'
theorem ok_excd {f : Addr} {fd : FuncData} (F : Fun K "is_excepted" "is_excepted" sExcd f fd) (C : Cn mg) (DT : Df P w K mg base "is_text" psIsText 1 spIsText) :
    FnOk P w K mg base CX0 2 f fd ["letters", "word"] spExcd := by
  obtain ⟨fT, fdT, GT, kT, bT, mT⟩ := DT
  obtain ⟨tX, mX⟩ := C.lexc
  refine F.ok scExcd (fun vs H Q E h => ?_) (fun cdv A outer s H vs Q E hr h => ?_)
  · obtain ⟨L, z, rfl, _⟩ := h
    rfl
  · obtain ⟨L, z, rfl, hl, q⟩ := h
    refine ⟨_, pss_one (ps_ret (pe_call GT hr (by rfl) mT kT bT .nil pass0 (pa_cons (pv 1) (pa_cons (pv 0) (pa_cons pe_int (pa_cons (pe_glob (v := .int 8) rfl mX ⟨_, rfl⟩) pa_nil)))))), ?_⟩
    exact ⟨_, rfl, _, rfl, z, L, 1, 8, rfl, hl, q⟩
abbrev sIsSo : Stmt := topS 38
theorem scIsSo : FnScope ["sounds"] ["sounds"] (defScope sIsSo) := ⟨rfl, rfl, rfl, by decide +kernel, rfl, by decide +kernel, by decide +kernel⟩
def spIsSo : Sp := fun vs H Q _ => ∃ (z : List Nat), vs = [.str (T z)] ∧ z.length ≤ 100 ∧ ∀ (H' : Hp), Same H H' → Q (.bl (isText z capsL 0 36)) H'
theorem ok_isSo {f : Addr} {fd : FuncData} (F : Fun K "is_sounds" "is_sounds" sIsSo f fd) (C : Cn mg) (DT : Df P w K mg base "is_text" psIsText 1 spIsText) :
    FnOk P w K mg base CX0 2 f fd ["sounds"] spIsSo := by
  obtain ⟨fT, fdT, GT, kT, bT, mT⟩ := DT
  obtain ⟨tC, mC⟩ := C.caps
  obtain ⟨tS, mS⟩ := C.lso
  refine F.ok scIsSo (fun vs H Q E h => ?_) (fun cdv A outer s H vs Q E hr h => ?_)
  · obtain ⟨z, rfl, _⟩ := h
    rfl
  · obtain ⟨z, rfl, hl, q⟩ := h
    refine ⟨_, pss_one (ps_ret (pe_call GT hr (by rfl) mT kT bT .nil pass0 (pa_cons (pv 0) (pa_cons (pe_glob (v := .str "ABCDEFGHIJKLMNOPQRSTUVWXYZ") rfl mC ⟨_, rfl⟩) (pa_cons pe_int (pa_cons (pe_glob (v := .int 36) rfl mS ⟨_, rfl⟩) pa_nil)))))), ?_⟩
    exact ⟨_, rfl, z, capsL, 0, 36, (by rw [caps_eq]; rfl), hl, q⟩
abbrev sIsExc : Stmt := topS 36
theorem scIsExc : FnScope ["letters", "pair", "word", "sounds"] ["letters", "pair"] (defScope sIsExc) := ⟨rfl, rfl, rfl, by decide +kernel, rfl, by decide +kernel, by decide +kernel⟩
def spIsExc : Sp := fun vs H Q _ => ∃ (L : List Nat) (t : Addr) (e : Exc), vs = [.str (T L), .ref t] ∧ H t = some (.tup [.str (T e.1), .str (T e.2)]) ∧ ExcOk L e ∧ ∀ (H' : Hp), Same H H' → Q (.bl true) H'
theorem ok_isExc {f : Addr} {fd : FuncData} (F : Fun K "is_exception" "is_exception" sIsExc f fd) (B : Bn mg) (DX : Df P w K mg base "is_excepted" ["letters", "word"] 2 spExcd) (DS : Df P w K mg base "is_sounds" ["sounds"] 2 spIsSo) :
    FnOk P w K mg base CX0 3 f fd ["letters", "pair"] spIsExc := by
  obtain ⟨fX, fdX, GX, kX, bX, mX⟩ := DX
  obtain ⟨fS, fdS, GS, kS, bS, mS⟩ := DS
  refine F.ok scIsExc (fun vs H Q E h => ?_) (fun cdv A outer s H vs Q E hr h => ?_)
  · obtain ⟨L, t, e, rfl, _⟩ := h
    rfl
  · obtain ⟨L, t, e, rfl, ht, ho, q⟩ := h
    refine ⟨_, pss_cons (ps_if (PW.pt (pw_or (pt_not (pt_val (pe_callB call_isi (by rfl) B.isi (by decide +kernel) (pa_cons (pv 1) (pa_cons (pe_bltn (v := .ty "tuple") rfl B.tup (by decide +kernel) rfl) pa_nil)))))
          (pw_or1 (pt_cmpR op_ne (pe_callB call_len (by rfl) B.len PySem.boot_len (pa_cons (pv 1) pa_nil)) pe_int (nomark _))))) (pss_one (ps_ret pe_bl)) pss_nil)
      (pss_cons (ps_asg (pv 1) (pg_tup (by rfl) (pgs_cons (pg_name (i := 2) scIsExc.nd rfl (.inl rfl)) (pgs_cons (pg_name (i := 3) scIsExc.nd rfl (.inl rfl)) pgs_nil))))
      (pss_one (ps_ret (pe_and (pe_call GX hr (by rfl) mX kX bX .nil pass0 (pa_cons (pv 0) (pa_cons (pv 2) pa_nil)))
        (pe_one (pe_call GS hr (by rfl) mS kS bS .nil pass0 (pa_cons (pv 3) pa_nil))))))), ?_⟩
    refine ⟨_, rfl, _, _, .type "tuple", _, true, rfl, ClsV.ty _, .base (.tup ht), kit_ty (by decide +kernel), true, rfl, iteF ?_⟩
    refine ⟨_, rfl, _, 2, rfl, .inr ⟨_, .inl (.inl ht), rfl⟩, rfl, _, rfl, iteF ?_⟩
    refine ⟨_, rfl, t, _, rfl, .inl (.inl ht), rfl, _, _, rfl, _, _, rfl, rfl, ?_⟩
    refine ⟨_, rfl, _, rfl, L, e.1, rfl, (by have := ho.w8; omega), fun H1 s1 => ?_⟩
    refine ⟨_, rfl, ?_⟩
    rw [isText_of ho.w1 ho.w8 ho.w]
    refine iteT ?_
    refine ⟨_, rfl, e.2, rfl, (by have := ho.s36; omega), fun H4 s4 => ?_⟩
    rw [isText_of (Nat.zero_le _) ho.s36 fun c hc => mem_caps (ho.s c hc)]
    exact q H4 (s1.trans s4)
abbrev sChL : Stmt := topS 30
theorem scChL : FnScope ["letters"] ["letters"] (defScope sChL) := ⟨rfl, rfl, rfl, by decide +kernel, rfl, by decide +kernel, by decide +kernel⟩
def spChL : Sp := fun vs H Q _ => ∃ (L : List Nat), vs = [.str (T L)] ∧ LetOk L ∧ ∀ (H' : Hp), Same H H' → Q .non H'
theorem ok_chL {f : Addr} {fd : FuncData} (F : Fun K "check_letters" "check_letters" sChL f fd) (C : Cn mg) (DT : Df P w K mg base "is_text" psIsText 1 spIsText) (DR : Df P w K mg base "is_rising" ["text"] 1 spRise) :
    FnOk P w K mg base CX0 2 f fd ["letters"] spChL := by
  obtain ⟨fT, fdT, GT, kT, bT, mT⟩ := DT
  obtain ⟨fR, fdR, GR, kR, bR, mR⟩ := DR
  obtain ⟨tS, mS⟩ := C.small
  refine F.ok scChL (fun vs H Q E h => ?_) (fun cdv A outer s H vs Q E hr h => ?_)
  · obtain ⟨L, rfl, _⟩ := h
    rfl
  · obtain ⟨L, rfl, hL, q⟩ := h
    refine ⟨_, pss_one (ps_if (PW.pt (pw_or (pt_not (pt_val (pe_call GT hr (by rfl) mT kT bT .nil pass0 (pa_cons (pv 0) (pa_cons (pe_glob (v := .str "abcdefghijklmnopqrstuvwxyz") rfl mS ⟨_, rfl⟩) (pa_cons pe_int (pa_cons pe_int pa_nil)))))))
        (pw_or1 (pt_not (pt_val (pe_call GR hr (by rfl) mR kR bR .nil pass0 (pa_cons (pv 0) pa_nil))))))) (pss_one ps_never) pss_nil), ?_⟩
    have l4 := hL.l4
    refine ⟨_, rfl, L, smallL, 2, 4, (by rw [small_eq]; rfl), by omega, fun H1 s1 => ?_⟩
    rw [isText_of hL.l2 hL.l4 fun c hc => mem_small (hL.az c hc)]
    refine ⟨true, rfl, iteF ?_⟩
    refine ⟨_, rfl, L, rfl, by omega, fun H2 s2 => ?_⟩
    rw [hL.up]
    refine ⟨true, rfl, iteF ?_⟩
    exact q H2 (s1.trans s2)
abbrev sChR : Stmt := topS 31
theorem scChR : FnScope ["letters", "rules", "number", "rule"] ["letters", "rules"] (defScope sChR) := ⟨rfl, rfl, rfl, by decide +kernel, rfl, by decide +kernel, by decide +kernel⟩
def spChR : Sp := fun vs H Q _ => ∃ (L : List Nat) (R : Addr) (rs : List Rule), vs = [.str (T L), .ref R] ∧ LetOk L ∧ RulesAt H R rs ∧ (∀ ρ ∈ rs, RuleOk L ρ) ∧ rs.length ≤ 12 ∧ ∀ (H' : Hp), Same H H' → Q .non H'
theorem ok_chR {f : Addr} {fd : FuncData} (F : Fun K "check_rules" "check_rules" sChR f fd) (B : Bn mg) (C : Cn mg) (DI : Df P w K mg base "is_rule" ["letters", "rule"] 3 spIsRule) :
    FnOk P w K mg base CX0 4 f fd ["letters", "rules"] spChR := by
  obtain ⟨fI, fdI, GI, kI, bI, mI⟩ := DI
  obtain ⟨tS, mS⟩ := C.mrul
  refine F.ok scChR (fun vs H Q E h => ?_) (fun cdv A outer s H vs Q E hr h => ?_)
  · obtain ⟨L, R, rs, rfl, _⟩ := h
    rfl
  · obtain ⟨L, R, rs, rfl, hL, ⟨ts, hR, hp⟩, ho, h12, q⟩ := h
    refine ⟨_, pss_cons (ps_if (pt_not (pt_val (pe_callB call_isi (by rfl) B.isi (by decide +kernel) (pa_cons (pv 1) (pa_cons (pe_bltn (v := .ty "tuple") rfl B.tup (by decide +kernel) rfl) pa_nil))))) (pss_one ps_never) pss_nil)
      (pss_one (ps_for PassesOwn.never rfl (pi_enumT (by rfl) B.enu (pa_cons (pv 1) pa_nil)) (pg_tup (by rfl) (pgs_cons (pg_name (i := 2) scChR.nd rfl (.inl rfl)) (pgs_cons (pg_name (i := 3) scChR.nd rfl (.inl rfl)) pgs_nil)))
        (pss_one (ps_if (PW.pt (pw_or (pt_cmpR op_eq (pv 2) (pe_glob (v := .int 12) rfl mS ⟨_, rfl⟩) (nomark _)) (pw_or1 (pt_not (pt_val (pe_call GI hr (by rfl) mI kI bI .nil pass0 (pa_cons (pv 0) (pa_cons (pv 3) pa_nil)))))))) (pss_one ps_never) pss_nil)))), ?_⟩
    refine ⟨_, rfl, _, _, .type "tuple", _, true, rfl, ClsV.ty _, .base (.tup hR), kit_ty (by decide +kernel), true, rfl, iteF ?_⟩
    refine ⟨_, rfl, R, _, rfl, .inl (.inl hR), for_it (walk_enumT (xs := ts.map V.ref)) (fun i σ H2 => Same H H2 ∧ ∃ v2 v3, σ = [some (.str (T L)), some (.ref R), v2, v3]) ⟨Same.refl H, _, _, rfl⟩ (fun i σ H2 _ h => .inl (.inl (h.1 _ _ hR))) ?_ ?_⟩
    · rintro i x σ H2 H3 hi ⟨s2, v2, v3, rfl⟩ ⟨t, x1, x2, rfl, ht, rfl, g1, g2⟩
      cases g1
      have g2 : (ts.map V.ref)[i]? = some x2 := g2
      rw [List.getElem?_map] at g2
      obtain ⟨a, ha, e⟩ := Option.map_eq_some_iff.mp g2
      subst e
      obtain ⟨ρ, hρ, hat⟩ := paired_at hp ha
      have sm := same_new ht (.tup [.int (i : Nat), .ref a])
      have hi2 : i < rs.length := (List.getElem?_eq_some_iff.mp hρ).1
      refine ⟨t, _, rfl, .inl (.inl upd_same), rfl, _, _, rfl, _, _, rfl, rfl, ?_⟩
      refine ⟨_, rfl, rfl, _, rfl, ?_⟩
      have nq : ¬ V.int ((i : Nat) : Int) = V.int 12 := fun z => by
        have := V.int.inj z
        omega
      rw [decide_eq_false nq]
      refine iteF ?_
      refine ⟨_, rfl, _, rfl, L, a, ρ, rfl, sm _ _ (s2 _ _ hat), hL, ho ρ (List.mem_of_getElem? hρ), fun H4 s4 => ?_⟩
      exact ⟨true, rfl, iteF ⟨s2.trans (sm.trans s4), _, _, rfl⟩⟩
    · rintro σ H2 ⟨s2, v2, v3, rfl⟩
      exact q H2 s2
end
end Say
namespace Say
open PySem PySem.Spec PyProof.Rows L2
/-- does the rule fit at the place of the signs -/
def fitsL (ρ : Rule) (z : List Nat) (i : Nat) : Bool :=
  if (z.drop i).take ρ.ow.length = ρ.ow then (decide (ρ.ah = []) || decide (z.getD (i - 1) 0 ∈ ρ.ah)) && (decide (ρ.be = []) || decide (z.getD (i + ρ.ow.length) 0 ∈ ρ.be)) else false
/-- a word between its edges -/
def sgn (wd : List Nat) : List Nat := 35 :: (wd ++ [35])
theorem sgn_len (wd : List Nat) : (sgn wd).length = wd.length + 2 := by simp [sgn]
theorem sgn_last (wd : List Nat) : (sgn wd)[wd.length + 1]? = some 35 := by
  unfold sgn
  rw [List.getElem?_cons_succ, List.getElem?_append_right (Nat.le_refl _), Nat.sub_self]
  rfl
theorem cut_at {z : List Nat} {i n : Nat} (h : i ≤ z.length) : cutS (T z) (some (i : Int)) (some ((i + n : Nat) : Int)) = T ((z.drop i).take n) := by
  unfold cutS
  rw [T_len, HT.sIx_nat, HT.sIx_nat, Nat.min_eq_left h]
  show T ((z.drop i).take (min (i + n) z.length - i)) = _
  congr 1
  by_cases c : i + n ≤ z.length
  · rw [Nat.min_eq_left c, Nat.add_sub_cancel_left]
  · rw [Nat.min_eq_right (by omega), List.take_of_length_le (by rw [List.length_drop]; omega), List.take_of_length_le (by rw [List.length_drop]; omega)]
theorem fit_room {wd ow : List Nat} {i : Nat} (h : ((sgn wd).drop i).take ow.length = ow) (h1 : 1 ≤ ow.length) (h35 : 35 ∉ ow) : i + ow.length ≤ wd.length + 1 := by
  have hl := congrArg List.length h
  rw [List.length_take, List.length_drop, sgn_len] at hl
  refine Decidable.byContradiction fun n => h35 ?_
  have e : i + ow.length = wd.length + 2 := by omega
  have g : ow[ow.length - 1]? = some 35 := by
    rw [← h, List.getElem?_take_of_lt (by rw [h]; omega), List.getElem?_drop]
    rw [show i + ((((sgn wd).drop i).take ow.length).length - 1) = wd.length + 1 by rw [h]; omega]
    exact sgn_last wd
  exact List.mem_of_getElem? g
theorem dec_nil (l : List Nat) : decide (V.str (T l) = V.str (Str.ofString "")) = decide (l = []) := by
  rw [show Str.ofString "" = T [] from nil_eq]
  refine decide_eq_decide.mpr ⟨fun z => T_inj (V.str.inj z), fun z => by rw [z]⟩
section
variable {P : Program} {w : World} {K : PySem.W.Frag} {mg : Str → Option Value} {base : Heap}
abbrev sFits : Stmt := topS 44
theorem scFits : FnScope ["rule", "signs", "at", "ahead", "own", "behind", "_", "past"] ["rule", "signs", "at"] (defScope sFits) := ⟨rfl, rfl, rfl, by decide +kernel, rfl, by decide +kernel, by decide +kernel⟩
/-- where its letters stand, the sign behind them stands, too -/
def RoomAt (ρ : Rule) (z : List Nat) (i : Nat) : Prop := (z.drop i).take ρ.ow.length = ρ.ow → i + ρ.ow.length < z.length
def spFits : Sp := fun vs H Q _ => ∃ (t : Addr) (ρ : Rule) (z : List Nat) (i : Nat), vs = [.ref t, .str (T z), .int i] ∧ H t = some (.tup ρ.vs) ∧ ρ.ow.length ≤ 2 ∧ 1 ≤ i ∧ i ≤ z.length ∧ z.length ≤ 100 ∧ RoomAt ρ z i ∧
  Q (.bl (fitsL ρ z i)) H
theorem ok_fits {f : Addr} {fd : FuncData} (F : Fun K "fits" "fits" sFits f fd) (B : Bn mg) : FnOk P w K mg base CX0 1 f fd ["rule", "signs", "at"] spFits := by
  refine F.ok scFits (fun vs H Q E h => ?_) (fun cdv A outer s H vs Q E hr h => ?_)
  · obtain ⟨t, ρ, z, i, rfl, _⟩ := h
    rfl
  · obtain ⟨t, ρ, z, i, rfl, ht, h2, hi1, hi, hw, hroom, q⟩ := h
    refine ⟨_, pss_cons (ps_asg (pv 0) (pg_tup (by rfl) (pgs_cons (pg_name (i := 3) scFits.nd rfl (.inl rfl)) (pgs_cons (pg_name (i := 4) scFits.nd rfl (.inl rfl)) (pgs_cons (pg_name (i := 5) scFits.nd rfl (.inl rfl)) (pgs_cons (pg_name (i := 6) scFits.nd rfl (.inl rfl)) pgs_nil))))))
      (pss_cons (ps_set (i := 7) scFits.nd rfl (.inl rfl) (pe_op op_add (pv 2) (pe_callB call_len_str (by rfl) B.len PySem.boot_len (pa_cons (pv 4) pa_nil))))
      (pss_cons (ps_if (pt_cmpR op_ne (pe_slice sl_str (pv 1) (po_some (pv 2)) (po_some (pv 7))) (pv 4) (nomark _)) (pss_one (ps_ret pe_bl)) pss_nil)
      (pss_one (ps_ret (pe_and (pe_or (pe_cmpR op_eq (pv 3) pe_str (nomark _)) (pe_one (pe_cmpR op_in_sign (pe_ix ix_str (pv 1) (pe_op op_sub (pv 2) pe_int) (fun _ _ => rfl)) (pv 3) rfl)))
        (pe_one (pe_or (pe_cmpR op_eq (pv 5) pe_str (nomark _)) (pe_one (pe_cmpR op_in_sign (pe_ix ix_str (pv 1) (pv 7) (fun _ _ => rfl)) (pv 5) rfl))))))))), ?_⟩
    have hzl : (T z).length ≤ sizeLine := by rw [T_len]; exact small (by omega)
    have hol : (T ρ.ow).length ≤ sizeLine := by rw [T_len]; exact small (by omega)
    refine ⟨_, rfl, t, _, rfl, .inl (.inl ht), rfl, _, _, rfl, _, _, rfl, _, _, rfl, _, _, rfl, rfl, ?_⟩
    refine ⟨_, rfl, _, rfl, _, rfl, hol, _, _, rfl, rfl, ?_⟩
    refine ⟨_, rfl, _, rfl, _, rfl, _, rfl, _, rfl, T z, rfl, hzl, _, rfl, ?_⟩
    rw [show ((i : Nat) : Int) + ((T ρ.ow).length : Int) = ((i + ρ.ow.length : Nat) : Int) by rw [T_len]; omega, cut_at (by omega)]
    refine ⟨rfl, _, rfl, ?_⟩
    have eow : (V.str (T ((z.drop i).take ρ.ow.length)) = V.str (T ρ.ow)) ↔ (z.drop i).take ρ.ow.length = ρ.ow :=
      ⟨fun z => T_inj (V.str.inj z), fun z => by rw [z]⟩
    by_cases c : (z.drop i).take ρ.ow.length = ρ.ow
    · rw [decide_eq_true (eow.mpr c)]
      refine iteF ?_
      have room := hroom c
      unfold fitsL at q
      rw [if_pos c] at q
      -- ahead
      refine ⟨_, rfl, rfl, _, rfl, ?_⟩
      rw [dec_nil]
      have g1 : (T z).cps.toList[i - 1]? = some (z.getD (i - 1) 0) := by rw [T_cps, List.getD_eq_getElem?_getD, List.getElem?_eq_getElem (by omega)]; rfl
      have g2 : (T z).cps.toList[i + ρ.ow.length]? = some (z.getD (i + ρ.ow.length) 0) := by rw [T_cps, List.getD_eq_getElem?_getD, List.getElem?_eq_getElem (by omega)]; rfl
      refine ite2 (fun c1 => ?_) (fun c1 => ?_)
      · refine ⟨true, rfl, iteT ?_⟩
        have q2 : Q (.bl (decide (ρ.be = []) || decide (z.getD (i + ρ.ow.length) 0 ∈ ρ.be))) H := by
          rw [c1, Bool.true_or, Bool.true_and] at q; exact q
        refine ⟨_, rfl, rfl, _, rfl, ?_⟩
        rw [dec_nil]
        refine ite2 (fun d1 => ?_) (fun d1 => ?_)
        · rw [d1, Bool.true_or] at q2
          exact q2
        · rw [Bool.eq_false_iff.mpr d1, Bool.false_or] at q2
          exact ⟨_, rfl, _, rfl, T z, _, _, rfl, rfl, hzl, atI_of g2 (by rw [T_len]; omega), _, rfl, _, T ρ.be, rfl, rfl, q2⟩
      · rw [Bool.eq_false_iff.mpr c1, Bool.false_or] at q
        refine ⟨_, rfl, _, rfl, _, _, rfl, rfl, T z, _, _, rfl, rfl, hzl, atI_of g1 (by omega), _, rfl, _, T ρ.ah, rfl, rfl, _, rfl, ?_⟩
        refine ite2 (fun c2 => ?_) (fun c2 => ?_)
        · have q2 : Q (.bl (decide (ρ.be = []) || decide (z.getD (i + ρ.ow.length) 0 ∈ ρ.be))) H := by
            rw [show decide (z.getD (i - 1) 0 ∈ ρ.ah) = true from c2, Bool.true_and] at q; exact q
          refine ⟨_, rfl, rfl, _, rfl, ?_⟩
          rw [dec_nil]
          refine ite2 (fun d1 => ?_) (fun d1 => ?_)
          · rw [d1, Bool.true_or] at q2
            exact q2
          · rw [Bool.eq_false_iff.mpr d1, Bool.false_or] at q2
            exact ⟨_, rfl, _, rfl, T z, _, _, rfl, rfl, hzl, atI_of g2 (by rw [T_len]; omega), _, rfl, _, T ρ.be, rfl, rfl, q2⟩
        · rw [show decide (z.getD (i - 1) 0 ∈ ρ.ah) = false from Bool.eq_false_iff.mpr c2, Bool.false_and] at q
          exact q
    · rw [decide_eq_false fun z => c (eow.mp z)]
      refine iteT ?_
      unfold fitsL at q
      rw [if_neg c] at q
      exact q
end
end Say
namespace Say
open PySem PySem.Spec PyProof.Rows L2
/-- the number of the first rule that fits -/
def ff (rs : List Rule) (z : List Nat) (i : Nat) : Option Nat := rs.findIdx? fun ρ => fitsL ρ z i
def ruleAt (rs : List Rule) (k : Nat) : Rule := rs.getD k ⟨[], [], [], []⟩
/-- the steps from a place on, and where it is stuck -/
def wk (rs : List Rule) (z : List Nat) : Nat → Nat → List (Nat × Nat) × Option Nat
  | 0, _ => ([], none)
  | m + 1, i => if i < z.length - 1 then
      match ff rs z i with
      | none => ([], some (i - 1))
      | some k => ((i - 1, k) :: (wk rs z m (i + (ruleAt rs k).ow.length)).1, (wk rs z m (i + (ruleAt rs k).ow.length)).2)
    else ([], none)
def W (rs : List Rule) (wd : List Nat) : List (Nat × Nat) × Option Nat := wk rs (sgn wd) (wd.length + 1) 1
theorem wk_end (rs : List Rule) (z : List Nat) (m i : Nat) (h : ¬ i < z.length - 1) : wk rs z m i = ([], none) := by
  cases m with
  | zero => rfl
  | succ m =>
    unfold wk
    rw [if_neg h]
theorem wk_none {rs : List Rule} {z : List Nat} {m i : Nat} (h : i < z.length - 1) (e : ff rs z i = none) : wk rs z (m + 1) i = ([], some (i - 1)) := by
  rw [wk, if_pos h, e]
theorem wk_some {rs : List Rule} {z : List Nat} {m i k : Nat} (h : i < z.length - 1) (e : ff rs z i = some k) : wk rs z (m + 1) i = ((i - 1, k) :: (wk rs z m (i + (ruleAt rs k).ow.length)).1, (wk rs z m (i + (ruleAt rs k).ow.length)).2) := by
  rw [wk, if_pos h, e]
theorem wk_len (rs : List Rule) (z : List Nat) : ∀ m i : Nat, (wk rs z m i).1.length ≤ m
  | 0, _ => Nat.le_refl 0
  | m + 1, i => by
    by_cases h : i < z.length - 1
    · cases e : ff rs z i with
      | none => rw [wk_none h e]; exact Nat.zero_le _
      | some k =>
        rw [wk_some h e]
        exact Nat.succ_le_succ (wk_len rs z m _)
    · rw [wk_end rs z _ i h]
      exact Nat.zero_le _
theorem ff_lt {rs : List Rule} {z : List Nat} {i k : Nat} (e : ff rs z i = some k) : k < rs.length := by
  obtain ⟨h, _⟩ := List.findIdx?_eq_some_iff_getElem.mp e
  exact h
theorem ruleAt_eq {rs : List Rule} {k : Nat} {ρ : Rule} (h : rs[k]? = some ρ) : ruleAt rs k = ρ := by
  unfold ruleAt
  rw [List.getD_eq_getElem?_getD, h]
  rfl
/-- what rules ask for the walk -/
structure RlOk (ρ : Rule) : Prop where
  o1 : 1 ≤ ρ.ow.length
  o2 : ρ.ow.length ≤ 2
  h35 : 35 ∉ ρ.ow
  s3 : ρ.so.length ≤ 3
theorem RuleOk.rl {L : List Nat} {ρ : Rule} (hL : LetOk L) (h : RuleOk L ρ) : RlOk ρ := ⟨h.o1, h.o2, fun z => by have := (hL.az _ (h.ow _ z)).1; omega, h.s3⟩
theorem BookOk.rls {L : List Nat} {rs : List Rule} {es : List Exc} (h : BookOk L rs es) : ∀ ρ ∈ rs, RlOk ρ := fun ρ hρ => (h.rl ρ hρ).rl h.lt
theorem eqT {a b : List Nat} : decide (V.str (T a) = V.str (T b)) = decide (a = b) := decide_eq_decide.mpr ⟨fun z => T_inj (V.str.inj z), fun z => by rw [z]⟩
theorem wk_stuck (rs : List Rule) (z : List Nat) : ∀ m i p : Nat, 1 ≤ i → (wk rs z m i).2 = some p → p + 2 ≤ z.length
  | 0, i, p, _, h => by cases h
  | m + 1, i, p, hi, h => by
    by_cases c : i < z.length - 1
    · cases e : ff rs z i with
      | none =>
        rw [wk_none c e] at h
        cases h
        omega
      | some k =>
        rw [wk_some c e] at h
        exact wk_stuck rs z m _ p (by omega) h
    · rw [wk_end rs z _ i c] at h
      cases h
theorem W_stuck {rs : List Rule} {wd : List Nat} {p : Nat} (h : (W rs wd).2 = some p) : p ≤ wd.length := by
  have := wk_stuck rs (sgn wd) _ 1 p (Nat.le_refl 1) h
  rw [sgn_len] at this
  omega
section
variable {P : Program} {w : World} {K : PySem.W.Frag} {mg : Str → Option Value} {base : Heap}
abbrev sFF : Stmt := topS 45
theorem scFF : FnScope ["rules", "signs", "at", "number", "rule"] ["rules", "signs", "at"] (defScope sFF) := ⟨rfl, rfl, rfl, by decide +kernel, rfl, by decide +kernel, by decide +kernel⟩
def optI : Option Nat → V
  | none => .non
  | some k => .int k
def spFF : Sp := fun vs H Q _ => ∃ (R : Addr) (rs : List Rule) (z : List Nat) (i : Nat), vs = [.ref R, .str (T z), .int i] ∧ RulesAt H R rs ∧ (∀ ρ ∈ rs, RlOk ρ) ∧ 1 ≤ i ∧ i ≤ z.length ∧ z.length ≤ 100 ∧ (∀ ρ ∈ rs, RoomAt ρ z i) ∧
  ∀ H', Same H H' → Q (optI (ff rs z i)) H'
theorem room_sgn {rs : List Rule} (h : ∀ ρ ∈ rs, RlOk ρ) (wd : List Nat) (i : Nat) : ∀ ρ ∈ rs, RoomAt ρ (sgn wd) i := fun ρ hρ c => by
  have := fit_room c (h ρ hρ).o1 (h ρ hρ).h35
  rw [sgn_len]
  omega
theorem ok_FF {f : Addr} {fd : FuncData} (F : Fun K "first_fit" "first_fit" sFF f fd) (B : Bn mg) (DF : Df P w K mg base "fits" ["rule", "signs", "at"] 1 spFits) : FnOk P w K mg base CX0 2 f fd ["rules", "signs", "at"] spFF := by
  obtain ⟨fF, fdF, GF, kF, bF, mF⟩ := DF
  refine F.ok scFF (fun vs H Q E h => ?_) (fun cdv A outer s H vs Q E hr h => ?_)
  · obtain ⟨R, rs, z, i, rfl, _⟩ := h
    rfl
  · obtain ⟨R, rs, z, i, rfl, ⟨ts, hR, hp⟩, ho, hi1, hi, hw, hrm, q⟩ := h
    refine ⟨_, pss_cons (ps_for PassesOwn.never rfl (pi_enumT (by rfl) B.enu (pa_cons (pv 0) pa_nil)) (pg_tup (by rfl) (pgs_cons (pg_name (i := 3) scFF.nd rfl (.inl rfl)) (pgs_cons (pg_name (i := 4) scFF.nd rfl (.inl rfl)) pgs_nil)))
        (pss_one (ps_if (pt_val (pe_call GF hr (by rfl) mF kF bF .nil pass0 (pa_cons (pv 4) (pa_cons (pv 1) (pa_cons (pv 2) pa_nil))))) (pss_one (ps_ret (pv 3))) pss_nil)))
      (pss_one (ps_ret pe_non)), ?_⟩
    refine ⟨_, rfl, R, _, rfl, .inl (.inl hR), for_it (walk_enumT (xs := ts.map V.ref)) (fun j σ H2 => Same H H2 ∧ (∃ v3 v4, σ = [some (.ref R), some (.str (T z)), some (.int i), v3, v4]) ∧ ∀ k ρ, k < j → rs[k]? = some ρ → fitsL ρ z i = false)
      ⟨Same.refl H, ⟨_, _, rfl⟩, fun k ρ h => absurd h (Nat.not_lt_zero k)⟩ (fun j σ H2 _ h => .inl (.inl (h.1 _ _ hR))) ?_ ?_⟩
    · rintro j x σ H2 H3 hj ⟨s2, ⟨v3, v4, rfl⟩, hn⟩ ⟨t, x1, x2, rfl, ht, rfl, g1, g2⟩
      cases g1
      have g2 : (ts.map V.ref)[j]? = some x2 := g2
      rw [List.getElem?_map] at g2
      obtain ⟨a, ha, e⟩ := Option.map_eq_some_iff.mp g2
      subst e
      obtain ⟨ρ, hρ, hat⟩ := paired_at hp ha
      have hm := ho ρ (List.mem_of_getElem? hρ)
      have sm := same_new ht (.tup [.int (j : Nat), .ref a])
      refine ⟨t, _, rfl, .inl (.inl upd_same), rfl, _, _, rfl, _, _, rfl, rfl, ?_⟩
      refine ⟨_, rfl, _, rfl, _, rfl, a, ρ, z, i, rfl, sm _ _ (s2 _ _ hat), hm.o2, hi1, hi, hw, hrm ρ (List.mem_of_getElem? hρ), _, rfl, ite2 (fun c => ?_) (fun c => ?_)⟩
      · refine ⟨_, rfl, ?_⟩
        have := q _ (s2.trans sm)
        have e : ff rs z i = some j := by
          refine List.findIdx?_eq_some_iff_getElem.mpr ⟨(List.getElem?_eq_some_iff.mp hρ).1, ?_, fun k hk => ?_⟩
          · rw [(List.getElem?_eq_some_iff.mp hρ).2]
            exact c
          · rw [hn k _ hk (List.getElem?_eq_getElem (by have := (List.getElem?_eq_some_iff.mp hρ).1; omega))]
            exact Bool.false_ne_true
        rw [e] at this
        exact this
      · refine ⟨s2.trans sm, ⟨_, _, rfl⟩, fun k ρ' hk hk' => ?_⟩
        by_cases e : k = j
        · subst e
          rw [hρ] at hk'
          cases hk'
          exact Bool.eq_false_iff.mpr c
        · exact hn k ρ' (by omega) hk'
    · rintro σ H2 ⟨s2, ⟨v3, v4, rfl⟩, hn⟩
      have := q _ s2
      have e : ff rs z i = none := by
        refine List.findIdx?_eq_none_iff.mpr fun ρ hρ => ?_
        obtain ⟨k, hk⟩ := List.mem_iff_getElem?.mp hρ
        have hl := (List.getElem?_eq_some_iff.mp hk).1
        exact hn k ρ (by rw [List.length_map, paired_len hp]; exact hl) hk
      rw [e] at this
      exact this
abbrev sSt : Stmt := topS 46
theorem scSt : FnScope ["rules", "tail", "signs", "steps", "at", "number"] ["rules", "tail"] (defScope sSt) := ⟨rfl, rfl, rfl, by decide +kernel, rfl, by decide +kernel, by decide +kernel⟩
/-- the list at D holds steps -/
def StepsAt (H : Hp) (D : Addr) (ss : List (Nat × Nat)) : Prop := ∃ ts : List Addr, H D = some (.lst (ts.map V.ref)) ∧ Paired (fun t (s : Nat × Nat) => H t = some (.tup [.int (s.1 : Nat), .int (s.2 : Nat)])) ts ss
theorem StepsAt.same {H H' : Hp} {D : Addr} {ss : List (Nat × Nat)} (h : StepsAt H D ss) (e : Same H H') : StepsAt H' D ss := by
  obtain ⟨ts, h1, h2⟩ := h
  exact ⟨ts, e _ _ h1, paired_mono (fun t ρ q => e _ _ q) h2⟩
theorem len1 (tl : List Nat) : (tl ++ [35]).length = tl.length + 1 := by simp
/-- a tail's steps, and where it is stuck -/
def Wt (rs : List Rule) (tl : List Nat) : List (Nat × Nat) × Option Nat := wk rs (tl ++ [35]) tl.length 1
theorem W_Wt (rs : List Rule) (wd : List Nat) : W rs wd = Wt rs (35 :: wd) := rfl
theorem fit_roomT {tl ow : List Nat} {i : Nat} (h : ((tl ++ [35]).drop i).take ow.length = ow) (h1 : 1 ≤ ow.length) (h35 : 35 ∉ ow) : i + ow.length ≤ tl.length := by
  have hl := congrArg List.length h
  rw [List.length_take, List.length_drop, List.length_append, List.length_singleton] at hl
  refine Decidable.byContradiction fun n => h35 ?_
  have e : i + ow.length = tl.length + 1 := by omega
  have g : ow[ow.length - 1]? = some 35 := by
    rw [← h, List.getElem?_take_of_lt (by rw [h]; omega), List.getElem?_drop]
    rw [show i + ((((tl ++ [35] : List Nat).drop i).take ow.length).length - 1) = tl.length by rw [h]; omega]
    rw [List.getElem?_append_right (Nat.le_refl _), Nat.sub_self]
    rfl
  exact List.mem_of_getElem? g
theorem room_tl {rs : List Rule} (h : ∀ ρ ∈ rs, RlOk ρ) (tl : List Nat) (i : Nat) : ∀ ρ ∈ rs, RoomAt ρ (tl ++ [35]) i := fun ρ hρ c => by
  have := fit_roomT c (h ρ hρ).o1 (h ρ hρ).h35
  rw [List.length_append, List.length_singleton]
  omega
def spSt : Sp := fun vs H Q _ => ∃ (R : Addr) (rs : List Rule) (tl : List Nat), vs = [.ref R, .str (T tl)] ∧ RulesAt H R rs ∧ (∀ ρ ∈ rs, RlOk ρ) ∧ 1 ≤ tl.length ∧ tl.length ≤ 81 ∧
  ∀ (t D : Addr) (H' : Hp), Same H H' → H D = none → H' t = some (.tup [.ref D, optI (Wt rs tl).2]) → StepsAt H' D (Wt rs tl).1 → Q (.ref t) H'
theorem ok_St {f : Addr} {fd : FuncData} (F : Fun K "steps_of" "steps_of" sSt f fd) (B : Bn mg) (C : Cn mg) (cO : KI mg "OWN" 1) (DF : Df P w K mg base "first_fit" ["rules", "signs", "at"] 2 spFF) : FnOk P w K mg base CX0 3 f fd ["rules", "tail"] spSt := by
  obtain ⟨fF, fdF, GF, kF, bF, mF⟩ := DF
  obtain ⟨tE, mE⟩ := C.edge
  obtain ⟨tO, mO⟩ := cO
  refine F.ok scSt (fun vs H Q E h => ?_) (fun cdv A outer s H vs Q E hr h => ?_)
  · obtain ⟨R, rs, tl, rfl, _⟩ := h
    rfl
  · obtain ⟨R, rs, tl, rfl, hR, ho, hl1, hw, q⟩ := h
    refine ⟨_, pss_cons (ps_set (i := 2) scSt.nd rfl (.inl rfl) (pe_op op_add_str (pv 1) (pe_glob (v := .str "#") rfl mE ⟨_, rfl⟩)))
      (pss_cons (ps_set (i := 3) scSt.nd rfl (.inl rfl) (pe_lst pa_nil))
      (pss_cons (ps_set (i := 4) scSt.nd rfl (.inl rfl) pe_int)
      (pss_cons (ps_while PassesOwn.never (pt_cmpR op_lt (pv 4) (pe_op op_sub (pe_callB call_len_str (by rfl) B.len PySem.boot_len (pa_cons (pv 2) pa_nil)) pe_int) (nomark _))
        (pss_cons (ps_set (i := 5) scSt.nd rfl (.inl rfl) (pe_call GF hr (by rfl) mF kF bF .nil pass0 (pa_cons (pv 0) (pa_cons (pv 2) (pa_cons (pv 4) pa_nil)))))
        (pss_cons (ps_if (pt_cmpR op_isN (pv 5) pe_non (nomark _)) (pss_one (ps_ret (pe_tup (pa_cons (pv 3) (pa_cons (pe_op op_sub (pv 4) pe_int) pa_nil))))) pss_nil)
        (pss_cons (ps_expr (pe_bm PySem.F.plainAttrs_list PySem.F.slot_list_append PySem.F.type_list_append mt_append (pv 3) (pa_cons (pe_tup (pa_cons (pe_op op_sub (pv 4) pe_int) (pa_cons (pv 5) pa_nil))) pa_nil)))
        (pss_one (ps_aug (i := 4) scSt.nd rfl (.inl rfl) (pe_callB call_len_str (by rfl) B.len PySem.boot_len (pa_cons (pe_ix ix_tup (pe_ix ix_tup (pv 0) (pv 5) (fun _ _ => rfl)) (pe_glob (v := .int 1) rfl mO ⟨_, rfl⟩) (fun _ _ => rfl)) pa_nil)) ip_add))))))
      (pss_one (ps_ret (pe_tup (pa_cons (pv 3) (pa_cons pe_non pa_nil)))))))), ?_⟩
    refine ⟨_, rfl, _, _, rfl, rfl, (by rw [len_hash, T_len]; exact small (by omega)), ?_⟩
    rw [app_hash]
    show tSeq _ _ _ _ _
    refine ⟨(by show 0 ≤ sizeLine; decide), fun D hD => ?_⟩
    obtain ⟨rts, hRt, hRp⟩ := id hR
    have zl : (T (tl ++ [35])).length = tl.length + 1 := by rw [T_len, len1]
    have hz0 : (T (tl ++ [35])).length ≤ sizeLine := by rw [zl]; exact small (by omega)
    refine ⟨fun m σ H2 => ∃ (i : Nat) (acc : List (Nat × Nat)) (v5 : Option V), σ = [some (.ref R), some (.str (T tl)), some (.str (T (tl ++ [35]))), some (.ref D), some (.int i), v5] ∧ 1 ≤ i ∧ tl.length + 1 ≤ i + m ∧ Same H H2 ∧ StepsAt H2 D acc ∧
      Wt rs tl = (acc ++ (wk rs (tl ++ [35]) m i).1, (wk rs (tl ++ [35]) m i).2), ⟨tl.length, 1, [], _, rfl, Nat.le_refl _, by omega, same_new hD _, ⟨[], upd_same, .nil⟩, rfl⟩, fun m σ H2 hW => ?_⟩
    obtain ⟨i, acc, v5, rfl, hi1, hm, s2, hS, hW⟩ := hW
    refine ⟨_, rfl, _, rfl, _, rfl, hz0, _, _, rfl, rfl, _, _, rfl, rfl, _, rfl, ite2 (fun c => ?_) (fun c => ?_)⟩
    · have c' : (i : Int) < ((T (tl ++ [35])).length : Int) - 1 := of_decide_eq_true c
      rw [zl] at c'
      have hi : i < tl.length := by omega
      have hlt : i < (tl ++ [35]).length - 1 := by rw [len1]; omega
      obtain ⟨m', rfl⟩ : ∃ m', m = m' + 1 := ⟨m - 1, by omega⟩
      refine ⟨fun σ' H' => ∃ (i : Nat) (acc : List (Nat × Nat)) (v5 : Option V), σ' = [some (.ref R), some (.str (T tl)), some (.str (T (tl ++ [35]))), some (.ref D), some (.int i), v5] ∧ 1 ≤ i ∧ tl.length + 1 ≤ i + m' ∧ Same H H' ∧ StepsAt H' D acc ∧
        Wt rs tl = (acc ++ (wk rs (tl ++ [35]) m' i).1, (wk rs (tl ++ [35]) m' i).2), fun σ' H' h => ⟨m', Nat.lt_succ_self _, h⟩, ?_⟩
      refine ⟨_, rfl, _, rfl, _, rfl, R, rs, tl ++ [35], i, rfl, hR.kt (.of s2), ho, hi1, by rw [len1]; omega, by rw [len1]; omega, room_tl ho tl i, fun H3 s3 => ?_⟩
      have s23 := s2.trans s3
      obtain ⟨ts, hDl, hDp⟩ := hS.same s3
      cases e : ff rs (tl ++ [35]) i with
      | none =>
        rw [wk_none hlt e] at hW
        refine ⟨_, rfl, rfl, _, rfl, iteT ?_⟩
        refine ⟨_, rfl, _, rfl, _, _, rfl, rfl, (by show 2 ≤ sizeLine; decide), fun t ht => ?_⟩
        have sm := same_new ht (.tup [.ref D, .int ((i : Int) - 1)])
        refine q t D _ (s23.trans sm) hD ?_ ?_
        · rw [upd_same, hW]
          show some (HO.tup [V.ref D, V.int ((i : Int) - 1)]) = some (HO.tup [V.ref D, V.int ((i - 1 : Nat) : Int)])
          rw [show ((i - 1 : Nat) : Int) = (i : Int) - 1 by omega]
        · rw [hW, List.append_nil]
          exact StepsAt.same ⟨ts, hDl, hDp⟩ sm
      | some k =>
        rw [wk_some hlt e] at hW
        have hk := ff_lt e
        obtain ⟨a, ha, hat⟩ := paired_at' hRp (List.getElem?_eq_getElem hk)
        have hm2 := ho _ (List.getElem_mem hk)
        have er : ruleAt rs k = rs[k] := ruleAt_eq (List.getElem?_eq_getElem hk)
        refine ⟨_, rfl, rfl, _, rfl, ?_⟩
        rw [show decide (optI (some k) = V.non) = false from decide_eq_false (fun z => by cases z)]
        refine iteF ?_
        refine ⟨_, rfl, .inl ⟨rfl, _, .inl (.inl hDl)⟩, _, rfl, _, _, rfl, rfl, _, rfl, (by show 2 ≤ sizeLine; decide), fun t ht => ?_⟩
        have sm := same_new ht (.tup [.int ((i : Int) - 1), .int (k : Nat)])
        have hDl' := sm _ _ hDl
        have sall : Same H (upd (upd H3 t (.tup [.int ((i : Int) - 1), .int (k : Nat)])) D (.lst (ts.map V.ref ++ [.ref t]))) := fun b u e => by
          rw [upd_ne (ne_of_none e hD)]
          exact sm _ _ (s23 _ _ e)
        refine ⟨D, _, _, rfl, rfl, hDl', ?_, ?_⟩
        · rw [List.length_map, paired_len hDp]
          have l1 : (Wt rs tl).1.length ≤ tl.length := wk_len rs (tl ++ [35]) tl.length 1
          rw [hW] at l1
          simp at l1
          exact small1000 (by omega)
        · have kR : Same H3 (upd (upd H3 t (.tup [.int ((i : Int) - 1), .int (k : Nat)])) D (.lst (ts.map V.ref ++ [.ref t]))) → True := fun _ => trivial
          have atR := sall _ _ hRt
          have ata := sall _ _ hat
          refine ⟨_, rfl, _, rfl, _, rfl, R, _, (k : Int), .ref a, rfl, rfl, .inl (.inl atR), atI_nat (by rw [List.getElem?_map, ha]; rfl), a, _, 1, .str (T rs[k].ow), rfl, rfl, .inl (.inl ata), atI_nat (j := 1) rfl, _, rfl, (by rw [T_len]; have := hm2.o2; exact small (by omega)), _, _, rfl, rfl, ?_⟩
          refine ⟨i + rs[k].ow.length, acc ++ [(i - 1, k)], some (.int (k : Nat)), ?_, by omega, by have := hm2.o1; omega, sall, ?_, ?_⟩
          · have ee : ((i + rs[k].ow.length : Nat) : Int) = (i : Int) + ((T rs[k].ow).length : Int) := by rw [T_len]; omega
            rw [ee]
            rfl
          · refine ⟨ts ++ [t], by rw [upd_same, List.map_append]; rfl, paired_app (paired_mono (fun t' s h => ?_) hDp) (.cons ?_ .nil)⟩
            · rw [upd_ne (ne_of h hDl (by intro z; cases z))]
              exact sm _ _ h
            · rw [upd_ne (ne_of_none hDl ht).symm, upd_same]
              show some (HO.tup [V.int ((i : Int) - 1), V.int (k : Nat)]) = some (HO.tup [V.int ((i - 1 : Nat) : Int), V.int (k : Nat)])
              rw [show ((i - 1 : Nat) : Int) = (i : Int) - 1 by omega]
          · rw [hW, er, List.append_assoc]
            rfl
    · have c' : ¬ (i : Int) < ((T (tl ++ [35])).length : Int) - 1 := of_decide_eq_false (Bool.eq_false_iff.mpr c)
      rw [zl] at c'
      rw [wk_end rs (tl ++ [35]) m i (by rw [len1]; omega)] at hW
      refine ⟨_, rfl, (by show 2 ≤ sizeLine; decide), fun t ht => ?_⟩
      have sm := same_new ht (.tup [.ref D, .non])
      refine q t D _ (s2.trans sm) hD ?_ ?_
      · rw [upd_same, hW]
        rfl
      · rw [hW, List.append_nil]
        exact hS.same sm
def LWAt (H : Hp) (t : Addr) (q : List (Nat × Nat) × Option Nat) : Prop := match q.2 with
  | some p => H t = some (.tup [.str (Str.ofString "unsaid"), .int (p : Nat)])
  | none => ∃ D, H t = some (.tup [.str (T []), .ref D]) ∧ StepsAt H D q.1
theorem LWAt.same {H H' : Hp} {t : Addr} {q : List (Nat × Nat) × Option Nat} (h : LWAt H t q) (e : Same H H') : LWAt H' t q := by
  obtain ⟨l, o⟩ := q
  cases o with
  | some p => exact e _ _ h
  | none =>
    obtain ⟨D', h1, h2⟩ := h
    exact ⟨D', e _ _ h1, h2.same e⟩
end
end Say
namespace Say
open PySem PySem.Spec PyProof.Rows L2
/-- the sounds of the rules of these numbers -/
def soL (rs : List Rule) (ks : List Nat) : List Nat := (ks.map fun k => (ruleAt rs k).so).flatten
/-- how rules say a word -/
def sayW (rs : List Rule) (wd : List Nat) : Option (List Nat) := if (W rs wd).2 = none then some (soL rs ((W rs wd).1.map (·.2))) else none
def optT : Option (List Nat) → V
  | none => .non
  | some s => .str (T s)
/-- how a book says a word -/
def saidM (rs : List Rule) (es : List Exc) (wd : List Nat) : Option (List Nat) := match es.find? fun e => decide (e.1 = wd) with
  | some e => some e.2
  | none => sayW rs wd
theorem sum_T : ∀ ls : List (List Nat), ((ls.map T).map fun z : Str => z.length).sum = ls.flatten.length
  | [] => rfl
  | l :: r => by
    show (T l).length + ((r.map T).map fun z : Str => z.length).sum = (l ++ r.flatten).length
    rw [sum_T r, T_len, List.length_append]
theorem flat_len {rs : List Rule} (h : ∀ ρ ∈ rs, RlOk ρ) : ∀ ks : List Nat, (∀ k ∈ ks, k < rs.length) → (soL rs ks).length ≤ 3 * ks.length
  | [], _ => Nat.zero_le _
  | k :: r, hk => by
    have ih := flat_len h r fun j hj => hk j (List.mem_cons_of_mem _ hj)
    have hl := hk k (List.mem_cons_self ..)
    have e : ruleAt rs k = rs[k] := ruleAt_eq (List.getElem?_eq_getElem hl)
    have h3 := (h _ (List.getElem_mem hl)).s3
    show ((ruleAt rs k).so ++ soL rs r).length ≤ 3 * (r.length + 1)
    rw [List.length_append, e]
    omega
theorem wk_lt {rs : List Rule} {z : List Nat} : ∀ (m i : Nat), ∀ s ∈ (wk rs z m i).1, s.2 < rs.length
  | 0, _, s, h => by cases h
  | m + 1, i, s, h => by
    by_cases c : i < z.length - 1
    · cases e : ff rs z i with
      | none => rw [wk_none c e] at h; cases h
      | some k =>
        rw [wk_some c e] at h
        rcases List.mem_cons.mp h with rfl | h
        · exact ff_lt e
        · exact wk_lt m _ s h
    · rw [wk_end rs z _ i c] at h
      cases h
section
variable {P : Program} {w : World} {K : PySem.W.Frag} {mg : Str → Option Value} {base : Heap}
abbrev sNum : Stmt := topS 50
theorem scNum : FnScope ["steps", "_", "number"] ["steps"] (defScope sNum) := ⟨rfl, rfl, rfl, by decide +kernel, rfl, by decide +kernel, by decide +kernel⟩
def spNum : Sp := fun vs H Q _ => ∃ (D : Addr) (ss : List (Nat × Nat)), vs = [.ref D] ∧ StepsAt H D ss ∧ ss.length ≤ 200 ∧ ∀ (D' : Addr) (H' : Hp), Same H H' → H D' = none → H' D' = some (.lst (ss.map fun s => V.int (s.2 : Nat))) → Q (.ref D') H'
theorem ok_num {f : Addr} {fd : FuncData} {k : Nat} (F : Fun K "numbers_of" "numbers_of" sNum f fd) : FnOk P w K mg base CX0 (k + 1) f fd ["steps"] spNum := by
  refine F.ok scNum (fun vs H Q E h => ?_) (fun cdv A outer s H vs Q E hr h => ?_)
  · obtain ⟨D, ss, rfl, _⟩ := h
    rfl
  · obtain ⟨D, ss, rfl, ⟨ts, hD, hp⟩, hl, q⟩ := h
    refine ⟨_, pss_one (ps_ret (pe_lc (own := [("_", 1), ("number", 2)]) (g := gTup K 2 (gCons (gName 1) (gCons (gName 2) gNil))) rfl scNum.nd (pi_list (pv 0))
        (blkOk_by (N := ["steps", "_", "number"]) (sc := defScope sNum) (by decide +kernel)) (fun _ _ _ _ _ => pg_tup (by rfl) (pgs_cons (pg_name (i := 1) scNum.nd rfl (.inl rfl)) (pgs_cons (pg_name (i := 2) scNum.nd rfl (.inl rfl)) pgs_nil)))
        (fun _ _ _ _ _ => pts_nil) (fun _ _ _ _ _ => pv 2))), ?_⟩
    refine ⟨_, rfl, D, rfl, ⟨_, .inl (.inl hD)⟩, fun D' hD' => ?_⟩
    refine lc_it (walk_list (xs := ts.map V.ref)) (fun i H2 => H2 D' = some (.lst ((ss.take i).map fun s => V.int (s.2 : Nat))) ∧ Same H H2) ?_ (fun i H2 _ h => .inl (.inl (h.2 _ _ hD))) ?_ ?_
    · exact ⟨upd_same, same_new hD' _⟩
    · rintro i x H2 H2' hi ⟨e1, e2⟩ ⟨rfl, hx⟩
      rw [List.getElem?_map] at hx
      obtain ⟨a, ha, e⟩ := Option.map_eq_some_iff.mp hx
      subst e
      obtain ⟨st, hst, hat⟩ := paired_at hp ha
      have hi2 : i < ss.length := (List.getElem?_eq_some_iff.mp hst).1
      refine ⟨a, _, rfl, .inl (.inl (e2 _ _ hat)), rfl, _, _, rfl, _, _, rfl, rfl, ?_⟩
      refine ⟨rfl, _, rfl, _, e1, ?_, ?_, ?_⟩
      · rw [List.length_map, List.length_take]
        exact small1000 (by omega)
      · rw [upd_same, List.take_add_one, hst, List.map_append]
        rfl
      · exact fun b u q => by
          rw [upd_ne (ne_of_none q hD')]
          exact e2 b u q
    · rintro H2 ⟨e1, e2⟩
      rw [List.length_map, paired_len hp, List.take_length] at e1
      exact q D' H2 e2 hD' e1
end
end Say
namespace Say
open PySem PySem.Spec PyProof.Rows L2
section
variable {P : Program} {w : World} {K : PySem.W.Frag} {mg : Str → Option Value} {base : Heap}
abbrev sSou : Stmt := topS 51
theorem scSou : FnScope ["rules", "numbers", "number"] ["rules", "numbers"] (defScope sSou) := ⟨rfl, rfl, rfl, by decide +kernel, rfl, by decide +kernel, by decide +kernel⟩
def spSou : Sp := fun vs H Q _ => ∃ (R D : Addr) (rs : List Rule) (ks : List Nat), vs = [.ref R, .ref D] ∧ RulesAt H R rs ∧ (∀ ρ ∈ rs, RlOk ρ) ∧ H D = some (.lst (ks.map fun k => V.int (k : Nat))) ∧ (∀ k ∈ ks, k < rs.length) ∧ ks.length ≤ 200 ∧
  ∀ (H' : Hp), Same H H' → Q (.str (T (soL rs ks))) H'
theorem ok_sou {f : Addr} {fd : FuncData} {k : Nat} (F : Fun K "sounds_of" "sounds_of" sSou f fd) (cS : KI mg "SOUNDS" 3) : FnOk P w K mg base CX0 (k + 1) f fd ["rules", "numbers"] spSou := by
  obtain ⟨tS, mS⟩ := cS
  refine F.ok scSou (fun vs H Q E h => ?_) (fun cdv A outer s H vs Q E hr h => ?_)
  · obtain ⟨R, D, rs, ks, rfl, _⟩ := h
    rfl
  · obtain ⟨R, D, rs, ks, rfl, ⟨rts, hR, hRp⟩, ho, hD, hk, hl, q⟩ := h
    refine ⟨_, pss_one (ps_ret (pe_join pe_str (pe_lc (own := [("number", 2)]) (g := gName 2) (te := tOp (rIxT K) (tOp (rIxT K) (tVar 0) (tVar 2)) (tC (.int 3))) rfl scSou.nd (pi_list (pv 1))
        (blkOk_by (N := ["rules", "numbers", "number"]) (sc := defScope sSou) (by decide +kernel)) (fun _ _ _ _ _ => pg_name (i := 2) scSou.nd rfl (.inl rfl))
        (fun _ _ _ _ _ => pts_nil) (fun _ _ _ _ _ => pe_ix ix_tup (pe_ix ix_tup (pv 0) (pv 2) (fun _ _ => rfl)) (pe_glob (v := .int 3) rfl mS ⟨_, rfl⟩) (fun _ _ => rfl))))), ?_⟩
    refine ⟨⟨_, rfl⟩, _, rfl, D, rfl, ⟨_, .inl (.inl hD)⟩, fun D' hD' => ?_⟩
    refine lc_it (walk_list (xs := ks.map fun k => V.int (k : Nat))) (fun i H2 => H2 D' = some (.lst ((((ks.take i).map fun k => (ruleAt rs k).so).map T).map V.str)) ∧ Same H H2) ?_ (fun i H2 _ h => .inl (.inl (h.2 _ _ hD))) ?_ ?_
    · exact ⟨upd_same, same_new hD' _⟩
    · rintro i x H2 H2' hi ⟨e1, e2⟩ ⟨rfl, hx⟩
      rw [List.getElem?_map] at hx
      obtain ⟨j, hj, e⟩ := Option.map_eq_some_iff.mp hx
      subst e
      have hjl := hk j (List.mem_of_getElem? hj)
      have hi2 : i < ks.length := (List.getElem?_eq_some_iff.mp hj).1
      obtain ⟨a, ha, hat⟩ := paired_at' hRp (List.getElem?_eq_getElem hjl)
      have er : ruleAt rs j = rs[j] := ruleAt_eq (List.getElem?_eq_getElem hjl)
      refine ⟨rfl, ?_⟩
      refine ⟨_, rfl, _, rfl, R, _, (j : Int), .ref a, rfl, rfl, .inl (.inl (e2 _ _ hR)), atI_nat (by rw [List.getElem?_map, ha]; rfl), a, _, 3, .str (T rs[j].so), rfl, rfl, .inl (.inl (e2 _ _ hat)), atI_nat (j := 3) rfl, _, e1, ?_, ?_, ?_⟩
      · rw [List.length_map, List.length_map, List.length_map, List.length_take]
        exact small1000 (by omega)
      · rw [upd_same, List.take_add_one, hj]
        simp only [Option.toList_some, List.map_append, List.map_cons, List.map_nil, er]
      · exact fun b u q => by
          rw [upd_ne (ne_of_none q hD')]
          exact e2 b u q
    · rintro H2 ⟨e1, e2⟩
      rw [List.length_map, List.take_length] at e1
      refine ⟨Str.ofString "", D', (ks.map fun k => (ruleAt rs k).so).map T, rfl, rfl, .inl (.inl (.inl e1)), ?_, ?_⟩
      · rw [sum_T]
        have := flat_len ho ks hk
        show (soL rs ks).length + _ * 0 ≤ _
        omega
      · rw [show Str.ofString "" = T [] from nil_eq, join_nil]
        exact q H2 e2
end
end Say
namespace Say
open PySem PySem.Spec PyProof.Rows L2
section
variable {P : Program} {w : World} {K : PySem.W.Frag} {mg : Str → Option Value} {base : Heap}
abbrev sEnd : Stmt := topS 47
theorem scEnd : FnScope ["rules", "tail", "steps", "stuck"] ["rules", "tail"] (defScope sEnd) := ⟨rfl, rfl, rfl, by decide +kernel, rfl, by decide +kernel, by decide +kernel⟩
/-- the numbers by which a tail is said -/
def endM (rs : List Rule) : Option (List Nat) → Option (List Nat)
  | none => none
  | some t => if (Wt rs t).2 = none then some ((Wt rs t).1.map (·.2)) else none
def ensM (rs : List Rule) (tl : Option (List Nat)) : Option (List Nat) := (endM rs tl).map (soL rs)
theorem sayW_ens (rs : List Rule) (wd : List Nat) : sayW rs wd = ensM rs (some (35 :: wd)) := by
  unfold sayW ensM endM
  rw [W_Wt]
  by_cases c : (Wt rs (35 :: wd)).2 = none
  · rw [if_pos c]
    simp only [c, if_true, Option.map_some]
  · rw [if_neg c]
    simp only [c, if_false, Option.map_none]
def EndV (H : Hp) (v : V) : Option (List Nat) → Prop
  | none => v = .non
  | some ks => ∃ D, v = .ref D ∧ H D = some (.lst (ks.map fun k => V.int (k : Nat)))
/-- a tail, not long -/
def TlOk (tl : Option (List Nat)) : Prop := ∀ t, tl = some t → 1 ≤ t.length ∧ t.length ≤ 81
def spEnd : Sp := fun vs H Q _ => ∃ (R : Addr) (rs : List Rule) (tl : Option (List Nat)), vs = [.ref R, optT tl] ∧ RulesAt H R rs ∧ (∀ ρ ∈ rs, RlOk ρ) ∧ TlOk tl ∧
  ∀ (v : V) (H' : Hp), Same H H' → EndV H' v (endM rs tl) → Q v H'
theorem ok_end {f : Addr} {fd : FuncData} (F : Fun K "ending" "ending" sEnd f fd) (DS : Df P w K mg base "steps_of" ["rules", "tail"] 3 spSt) (DN : Df P w K mg base "numbers_of" ["steps"] 1 spNum) : FnOk P w K mg base CX0 4 f fd ["rules", "tail"] spEnd := by
  obtain ⟨fS, fdS, GS, kS, bS, mS⟩ := DS
  obtain ⟨fN, fdN, GN, kN, bN, mN⟩ := DN
  refine F.ok scEnd (fun vs H Q E h => ?_) (fun cdv A outer s H vs Q E hr h => ?_)
  · obtain ⟨R, rs, tl, rfl, _⟩ := h
    rfl
  · obtain ⟨R, rs, tl, rfl, hR, ho, hw, q⟩ := h
    have hr1 : Room 1 _ := hr.mono (by decide)
    refine ⟨_, pss_cons (ps_if (pt_cmpR op_isN (pv 1) pe_non (nomark _)) (pss_one (ps_ret pe_non)) pss_nil)
      (pss_cons (ps_asg (pe_call GS hr (by rfl) mS kS bS .nil pass0 (pa_cons (pv 0) (pa_cons (pv 1) pa_nil))) (pg_tup (by rfl) (pgs_cons (pg_name (i := 2) scEnd.nd rfl (.inl rfl)) (pgs_cons (pg_name (i := 3) scEnd.nd rfl (.inl rfl)) pgs_nil))))
      (pss_cons (ps_if (pt_cmpR op_notN (pv 3) pe_non (nomark _)) (pss_one (ps_ret pe_non)) pss_nil)
      (pss_one (ps_ret (pe_call GN hr1 (by rfl) mN kN bN .nil pass0 (pa_cons (pv 2) pa_nil)))))), ?_⟩
    cases tl with
    | none =>
      refine ⟨_, rfl, rfl, _, rfl, iteT ?_⟩
      exact q _ H (Same.refl H) rfl
    | some tl =>
    obtain ⟨h1, h81⟩ := hw tl rfl
    refine ⟨_, rfl, rfl, _, rfl, ?_⟩
    rw [show decide (optT (some tl) = V.non) = false from decide_eq_false (fun z => by cases z)]
    refine iteF ?_
    refine ⟨_, rfl, _, rfl, R, rs, tl, rfl, hR, ho, h1, h81, fun t D H1 s1 hD ht hS => ?_⟩
    refine ⟨t, _, rfl, .inl (.inl ht), rfl, _, _, rfl, _, _, rfl, rfl, ?_⟩
    refine ⟨_, rfl, rfl, _, rfl, ?_⟩
    simp only [endM] at q
    cases e : (Wt rs tl).2 with
    | some p =>
      rw [e, if_neg (fun z => by cases z)] at q
      rw [show decide (optI (some p) = V.non) = false from decide_eq_false (fun z => by cases z)]
      refine iteT ?_
      exact q _ H1 s1 rfl
    | none =>
      rw [e, if_pos rfl] at q
      refine iteF ?_
      have hl : (Wt rs tl).1.length ≤ tl.length := wk_len rs (tl ++ [35]) tl.length 1
      refine ⟨_, rfl, D, _, rfl, hS, by omega, fun D' H2 s2 _ h2 => ?_⟩
      refine q _ H2 (s1.trans s2) ⟨D', rfl, ?_⟩
      rw [h2, List.map_map]
      rfl
end
end Say
namespace Say
open PySem PySem.Spec PyProof.Rows L2
section
variable {P : Program} {w : World} {K : PySem.W.Frag} {mg : Str → Option Value} {base : Heap}
abbrev sEnS : Stmt := topS 48
theorem scEnS : FnScope ["rules", "tail", "numbers"] ["rules", "tail"] (defScope sEnS) := ⟨rfl, rfl, rfl, by decide +kernel, rfl, by decide +kernel, by decide +kernel⟩
def spEnS : Sp := fun vs H Q _ => ∃ (R : Addr) (rs : List Rule) (tl : Option (List Nat)), vs = [.ref R, optT tl] ∧ RulesAt H R rs ∧ (∀ ρ ∈ rs, RlOk ρ) ∧ TlOk tl ∧
  ∀ (H' : Hp), Same H H' → Q (optT (ensM rs tl)) H'
theorem end_ks {rs : List Rule} {tl : Option (List Nat)} {ks : List Nat} (h : endM rs tl = some ks) (hw : TlOk tl) : (∀ k ∈ ks, k < rs.length) ∧ ks.length ≤ 81 := by
  cases tl with
  | none => cases h
  | some t =>
    unfold endM at h
    by_cases c : (Wt rs t).2 = none
    · simp only [c, if_true] at h
      cases h
      refine ⟨fun k hk => ?_, ?_⟩
      · obtain ⟨st, hst, rfl⟩ := List.mem_map.mp hk
        exact wk_lt _ _ st hst
      · have hl : (Wt rs t).1.length ≤ t.length := wk_len rs (t ++ [35]) t.length 1
        have := (hw t rfl).2
        rw [List.length_map]
        omega
    · simp only [c, if_false] at h
      cases h
theorem ok_enS {f : Addr} {fd : FuncData} (F : Fun K "ending_sounds" "ending_sounds" sEnS f fd) (DE : Df P w K mg base "ending" ["rules", "tail"] 4 spEnd) (DN : Df P w K mg base "sounds_of" ["rules", "numbers"] 1 spSou) : FnOk P w K mg base CX0 5 f fd ["rules", "tail"] spEnS := by
  obtain ⟨fS, fdS, GS, kS, bS, mS⟩ := DE
  obtain ⟨fN, fdN, GN, kN, bN, mN⟩ := DN
  refine F.ok scEnS (fun vs H Q E h => ?_) (fun cdv A outer s H vs Q E hr h => ?_)
  · obtain ⟨R, rs, tl, rfl, _⟩ := h
    rfl
  · obtain ⟨R, rs, tl, rfl, hR, ho, hw, q⟩ := h
    have hr1 : Room 1 _ := hr.mono (by decide)
    refine ⟨_, pss_cons (ps_set (i := 2) scEnS.nd rfl (.inl rfl) (pe_call GS hr (by rfl) mS kS bS .nil pass0 (pa_cons (pv 0) (pa_cons (pv 1) pa_nil))))
      (pss_cons (ps_if (pt_cmpR op_isN (pv 2) pe_non (nomark _)) (pss_one (ps_ret pe_non)) pss_nil)
      (pss_one (ps_ret (pe_call GN hr1 (by rfl) mN kN bN .nil pass0 (pa_cons (pv 0) (pa_cons (pv 2) pa_nil)))))), ?_⟩
    refine ⟨_, rfl, _, rfl, R, rs, tl, rfl, hR, ho, hw, fun v H1 s1 hv => ?_⟩
    unfold ensM at q
    cases e : endM rs tl with
    | none =>
      rw [e] at hv q
      cases hv
      refine ⟨_, rfl, rfl, _, rfl, iteT ?_⟩
      exact q H1 s1
    | some ks =>
      rw [e] at hv q
      obtain ⟨D, rfl, hD⟩ := hv
      obtain ⟨hk, hl⟩ := end_ks e hw
      refine ⟨_, rfl, rfl, _, rfl, ?_⟩
      rw [show decide (V.ref D = V.non) = false from decide_eq_false (fun z => by cases z)]
      refine iteF ?_
      exact ⟨_, rfl, _, rfl, R, D, rs, ks, rfl, hR.kt (.of s1), ho, hD, hk, by omega, fun H2 s2 => q H2 (s1.trans s2)⟩
end
end Say
namespace Say
open PySem PySem.Spec PyProof.Rows L2
section
variable {P : Program} {w : World} {K : PySem.W.Frag} {mg : Str → Option Value} {base : Heap}
abbrev sWS : Stmt := topS 49
theorem scWS : FnScope ["rules", "word"] ["rules", "word"] (defScope sWS) := ⟨rfl, rfl, rfl, by decide +kernel, rfl, by decide +kernel, by decide +kernel⟩
def spWS : Sp := fun vs H Q _ => ∃ (R : Addr) (rs : List Rule) (wd : List Nat), vs = [.ref R, .str (T wd)] ∧ RulesAt H R rs ∧ (∀ ρ ∈ rs, RlOk ρ) ∧ wd.length ≤ 80 ∧
  ∀ (H' : Hp), Same H H' → Q (optT (sayW rs wd)) H'
theorem ok_WS {f : Addr} {fd : FuncData} (F : Fun K "word_sounds" "word_sounds" sWS f fd) (C : Cn mg) (DE : Df P w K mg base "ending_sounds" ["rules", "tail"] 5 spEnS) : FnOk P w K mg base CX0 6 f fd ["rules", "word"] spWS := by
  obtain ⟨fE, fdE, GE, kE, bE, mE⟩ := DE
  obtain ⟨tE, mG⟩ := C.edge
  refine F.ok scWS (fun vs H Q E h => ?_) (fun cdv A outer s H vs Q E hr h => ?_)
  · obtain ⟨R, rs, wd, rfl, _⟩ := h
    rfl
  · obtain ⟨R, rs, wd, rfl, hR, ho, hw, q⟩ := h
    refine ⟨_, pss_one (ps_ret (pe_call GE hr (by rfl) mE kE bE .nil pass0 (pa_cons (pv 0) (pa_cons (pe_op op_add_str (pe_glob (v := .str "#") rfl mG ⟨_, rfl⟩) (pv 1)) pa_nil)))), ?_⟩
    exact ⟨_, rfl, _, rfl, _, _, rfl, rfl, (by rw [len_hash, T_len]; exact small (by omega)), R, rs, some (35 :: wd), (by rw [hash_app]; rfl), hR, ho, (fun t e => by cases e; exact ⟨by simp, by simp; omega⟩), fun H1 s1 => by have := q H1 s1; rw [sayW_ens] at this; exact this⟩
end
end Say
namespace Say
open PySem PySem.Spec PyProof.Rows L2
/-- the list at S holds samples -/
def SampsAt (H : Hp) (S : Addr) (ss : List Exc) : Prop := ∃ ts : List Addr, H S = some (.lst (ts.map V.ref)) ∧ Paired (fun t (e : Exc) => H t = some (.tup [.str (T e.1), .str (T e.2)])) ts ss
theorem SampsAt.same {H H' : Hp} {S : Addr} {ss : List Exc} (h : SampsAt H S ss) (e : Same H H') : SampsAt H' S ss := by
  obtain ⟨ts, h1, h2⟩ := h
  exact ⟨ts, e _ _ h1, paired_mono (fun t ρ q => e _ _ q) h2⟩
theorem eqO {o : Option (List Nat)} {b : List Nat} : decide (optT o = V.str (T b)) = decide (o = some b) := by
  cases o with
  | none => rw [decide_eq_false (fun z => by cases z), decide_eq_false (fun z => by cases z)]
  | some a => exact decide_eq_decide.mpr ⟨fun z => by rw [T_inj (V.str.inj z)], fun z => by cases z; rfl⟩
section
variable {P : Program} {w : World} {K : PySem.W.Frag} {mg : Str → Option Value} {base : Heap}
abbrev sIsSaid : Stmt := topS 59
theorem scIsSaid : FnScope ["rules", "sample", "word", "sounds"] ["rules", "sample"] (defScope sIsSaid) := ⟨rfl, rfl, rfl, by decide +kernel, rfl, by decide +kernel, by decide +kernel⟩
def spIsSaid : Sp := fun vs H Q _ => ∃ (R t : Addr) (rs : List Rule) (e : Exc), vs = [.ref R, .ref t] ∧ RulesAt H R rs ∧ (∀ ρ ∈ rs, RlOk ρ) ∧ H t = some (.tup [.str (T e.1), .str (T e.2)]) ∧ e.1.length ≤ 80 ∧
  ∀ (H' : Hp), Same H H' → Q (.bl (decide (sayW rs e.1 = some e.2))) H'
theorem ok_isSaid {f : Addr} {fd : FuncData} (F : Fun K "is_said" "is_said" sIsSaid f fd) (DE : Df P w K mg base "word_sounds" ["rules", "word"] 6 spWS) : FnOk P w K mg base CX0 7 f fd ["rules", "sample"] spIsSaid := by
  obtain ⟨fE, fdE, GE, kE, bE, mE⟩ := DE
  refine F.ok scIsSaid (fun vs H Q E h => ?_) (fun cdv A outer s H vs Q E hr h => ?_)
  · obtain ⟨R, t, rs, e, rfl, _⟩ := h
    rfl
  · obtain ⟨R, t, rs, e, rfl, hR, ho, ht, hw, q⟩ := h
    refine ⟨_, pss_cons (ps_asg (pv 1) (pg_tup (by rfl) (pgs_cons (pg_name (i := 2) scIsSaid.nd rfl (.inl rfl)) (pgs_cons (pg_name (i := 3) scIsSaid.nd rfl (.inl rfl)) pgs_nil))))
      (pss_one (ps_ret (pe_cmpR op_eq (pe_call GE hr (by rfl) mE kE bE .nil pass0 (pa_cons (pv 0) (pa_cons (pv 2) pa_nil))) (pv 3) (nomark _)))), ?_⟩
    refine ⟨_, rfl, t, _, rfl, .inl (.inl ht), rfl, _, _, rfl, _, _, rfl, rfl, ?_⟩
    refine ⟨_, rfl, _, rfl, R, rs, e.1, rfl, hR, ho, hw, fun H1 s1 => ?_⟩
    have hsc : scal (optT (sayW rs e.1)) (V.str (T e.2)) = true := by
      cases sayW rs e.1 <;> rfl
    refine ⟨_, rfl, hsc, ?_⟩
    have := q H1 s1
    rw [← eqO] at this
    exact this
abbrev sChS : Stmt := topS 57
theorem scChS : FnScope ["letters", "samples", "number", "sample"] ["letters", "samples"] (defScope sChS) := ⟨rfl, rfl, rfl, by decide +kernel, rfl, by decide +kernel, by decide +kernel⟩
def spChS : Sp := fun vs H Q _ => ∃ (L : List Nat) (S : Addr) (ss : List Exc), vs = [.str (T L), .ref S] ∧ SampsAt H S ss ∧ (∀ e ∈ ss, ExcOk L e) ∧ ss.length ≤ 12 ∧ ∀ (H' : Hp), Same H H' → Q .non H'
theorem ok_chS {f : Addr} {fd : FuncData} (F : Fun K "check_samples" "check_samples" sChS f fd) (B : Bn mg) (cM : KI mg "MOST_SAMPLES" 12) (DI : Df P w K mg base "is_exception" ["letters", "pair"] 3 spIsExc) :
    FnOk P w K mg base CX0 4 f fd ["letters", "samples"] spChS := by
  obtain ⟨fI, fdI, GI, kI, bI, mI⟩ := DI
  obtain ⟨tS, mS⟩ := cM
  refine F.ok scChS (fun vs H Q E h => ?_) (fun cdv A outer s H vs Q E hr h => ?_)
  · obtain ⟨L, S, ss, rfl, _⟩ := h
    rfl
  · obtain ⟨L, S, ss, rfl, ⟨ts, hS, hp⟩, ho, h12, q⟩ := h
    refine ⟨_, pss_cons (ps_if (pt_not (pt_val (pe_callB call_isi (by rfl) B.isi (by decide +kernel) (pa_cons (pv 1) (pa_cons (pe_bltn (v := .ty "list") rfl B.lst (by decide +kernel) rfl) pa_nil))))) (pss_one ps_never) pss_nil)
      (pss_one (ps_for PassesOwn.never rfl (pi_enum (by rfl) B.enu (pa_cons (pv 1) pa_nil)) (pg_tup (by rfl) (pgs_cons (pg_name (i := 2) scChS.nd rfl (.inl rfl)) (pgs_cons (pg_name (i := 3) scChS.nd rfl (.inl rfl)) pgs_nil)))
        (pss_one (ps_if (PW.pt (pw_or (pt_cmpR op_eq (pv 2) (pe_glob (v := .int 12) rfl mS ⟨_, rfl⟩) (nomark _)) (pw_or1 (pt_not (pt_val (pe_call GI hr (by rfl) mI kI bI .nil pass0 (pa_cons (pv 0) (pa_cons (pv 3) pa_nil)))))))) (pss_one ps_never) pss_nil)))), ?_⟩
    refine ⟨_, rfl, _, _, .type "list", _, true, rfl, ClsV.ty _, .base (.lst hS), kit_ty (by decide +kernel), true, rfl, iteF ?_⟩
    refine ⟨_, rfl, S, _, rfl, .inl (.inl hS), for_it (walk_enum (xs := ts.map V.ref)) (fun i σ H2 => Same H H2 ∧ ∃ v2 v3, σ = [some (.str (T L)), some (.ref S), v2, v3]) ⟨Same.refl H, _, _, rfl⟩ (fun i σ H2 _ h => .inl (.inl (h.1 _ _ hS))) ?_ ?_⟩
    · rintro i x σ H2 H3 hi ⟨s2, v2, v3, rfl⟩ ⟨t, x1, x2, rfl, ht, rfl, g1, g2⟩
      cases g1
      have g2 : (ts.map V.ref)[i]? = some x2 := g2
      rw [List.getElem?_map] at g2
      obtain ⟨a, ha, e⟩ := Option.map_eq_some_iff.mp g2
      subst e
      obtain ⟨e, he, hat⟩ := paired_at hp ha
      have sm := same_new ht (.tup [.int (i : Nat), .ref a])
      have hi2 : i < ss.length := (List.getElem?_eq_some_iff.mp he).1
      refine ⟨t, _, rfl, .inl (.inl upd_same), rfl, _, _, rfl, _, _, rfl, rfl, ?_⟩
      refine ⟨_, rfl, rfl, _, rfl, ?_⟩
      have nq : ¬ V.int ((i : Nat) : Int) = V.int 12 := fun z => by
        have := V.int.inj z
        omega
      rw [decide_eq_false nq]
      refine iteF ?_
      refine ⟨_, rfl, _, rfl, L, a, e, rfl, sm _ _ (s2 _ _ hat), ho e (List.mem_of_getElem? he), fun H4 s4 => ?_⟩
      exact ⟨true, rfl, iteF ⟨s2.trans (sm.trans s4), _, _, rfl⟩⟩
    · rintro σ H2 ⟨s2, v2, v3, rfl⟩
      exact q H2 s2
abbrev sChA : Stmt := topS 56
theorem scChA : FnScope ["letters", "rules", "samples"] ["letters", "rules", "samples"] (defScope sChA) := ⟨rfl, rfl, rfl, by decide +kernel, rfl, by decide +kernel, by decide +kernel⟩
def spChA : Sp := fun vs H Q _ => ∃ (L : List Nat) (R S : Addr) (rs : List Rule) (ss : List Exc), vs = [.str (T L), .ref R, .ref S] ∧ LetOk L ∧ RulesAt H R rs ∧ (∀ ρ ∈ rs, RuleOk L ρ) ∧ rs.length ≤ 12 ∧ SampsAt H S ss ∧ (∀ e ∈ ss, ExcOk L e) ∧ ss.length ≤ 12 ∧ ∀ (H' : Hp), Same H H' → Q .non H'
theorem ok_chA {f : Addr} {fd : FuncData} (F : Fun K "check_all" "check_all" sChA f fd) (DL : Df P w K mg base "check_letters" ["letters"] 2 spChL) (DR : Df P w K mg base "check_rules" ["letters", "rules"] 4 spChR)
    (DS : Df P w K mg base "check_samples" ["letters", "samples"] 4 spChS) : FnOk P w K mg base CX0 5 f fd ["letters", "rules", "samples"] spChA := by
  obtain ⟨fL, fdL, GL, kL, bL, mL⟩ := DL
  obtain ⟨fR, fdR, GR, kR, bR, mR⟩ := DR
  obtain ⟨fS, fdS, GS, kS, bS, mS⟩ := DS
  refine F.ok scChA (fun vs H Q E h => ?_) (fun cdv A outer s H vs Q E hr h => ?_)
  · obtain ⟨L, R, S, rs, ss, rfl, _⟩ := h
    rfl
  · obtain ⟨L, R, S, rs, ss, rfl, hL, hR, ho, h12, hS, hs, s12, q⟩ := h
    refine ⟨_, pss_cons (ps_expr (pe_call GL (hr.mono (by decide)) (by rfl) mL kL bL .nil pass0 (pa_cons (pv 0) pa_nil)))
      (pss_cons (ps_expr (pe_call GR hr (by rfl) mR kR bR .nil pass0 (pa_cons (pv 0) (pa_cons (pv 1) pa_nil))))
      (pss_one (ps_expr (pe_call GS hr (by rfl) mS kS bS .nil pass0 (pa_cons (pv 0) (pa_cons (pv 2) pa_nil)))))), ?_⟩
    refine ⟨_, rfl, L, rfl, hL, fun H1 s1 => ?_⟩
    refine ⟨_, rfl, _, rfl, L, R, rs, rfl, hL, hR.kt (.of s1), ho, h12, fun H2 s2 => ?_⟩
    refine ⟨_, rfl, _, rfl, L, S, ss, rfl, hS.same (s1.trans s2), hs, s12, fun H3 s3 => ?_⟩
    exact q H3 (s1.trans (s2.trans s3))
end
end Say
/-! rules in a list; written by k18/genlist.py -/
namespace Say
open PySem PySem.Spec PyProof.Rows L2
def RulesAtL (H : Hp) (R : Addr) (rs : List Rule) : Prop := ∃ ts : List Addr, H R = some (.lst (ts.map V.ref)) ∧ Paired (fun t ρ => H t = some (.tup (Rule.vs ρ))) ts rs
theorem RulesAtL.same {H H' : Hp} {R : Addr} {rs : List Rule} (h : RulesAtL H R rs) (e : Same H H') : RulesAtL H' R rs := by
  obtain ⟨ts, h1, h2⟩ := h
  exact ⟨ts, e _ _ h1, paired_mono (fun t ρ q => e _ _ q) h2⟩
section
variable {P : Program} {w : World} {K : PySem.W.Frag} {mg : Str → Option Value} {base : Heap}
def spFFL : Sp := fun vs H Q _ => ∃ (R : Addr) (rs : List Rule) (z : List Nat) (i : Nat), vs = [.ref R, .str (T z), .int i] ∧ RulesAtL H R rs ∧ (∀ ρ ∈ rs, RlOk ρ) ∧ 1 ≤ i ∧ i ≤ z.length ∧ z.length ≤ 100 ∧ (∀ ρ ∈ rs, RoomAt ρ z i) ∧
  ∀ H', Same H H' → Q (optI (ff rs z i)) H'
theorem ok_FFL {f : Addr} {fd : FuncData} (F : Fun K "first_fit" "first_fit" sFF f fd) (B : Bn mg) (DF : Df P w K mg base "fits" ["rule", "signs", "at"] 1 spFits) : FnOk P w K mg base CX0 2 f fd ["rules", "signs", "at"] spFFL := by
  obtain ⟨fF, fdF, GF, kF, bF, mF⟩ := DF
  refine F.ok scFF (fun vs H Q E h => ?_) (fun cdv A outer s H vs Q E hr h => ?_)
  · obtain ⟨R, rs, z, i, rfl, _⟩ := h
    rfl
  · obtain ⟨R, rs, z, i, rfl, ⟨ts, hR, hp⟩, ho, hi1, hi, hw, hrm, q⟩ := h
    refine ⟨_, pss_cons (ps_for PassesOwn.never rfl (pi_enum (by rfl) B.enu (pa_cons (pv 0) pa_nil)) (pg_tup (by rfl) (pgs_cons (pg_name (i := 3) scFF.nd rfl (.inl rfl)) (pgs_cons (pg_name (i := 4) scFF.nd rfl (.inl rfl)) pgs_nil)))
        (pss_one (ps_if (pt_val (pe_call GF hr (by rfl) mF kF bF .nil pass0 (pa_cons (pv 4) (pa_cons (pv 1) (pa_cons (pv 2) pa_nil))))) (pss_one (ps_ret (pv 3))) pss_nil)))
      (pss_one (ps_ret pe_non)), ?_⟩
    refine ⟨_, rfl, R, _, rfl, .inl (.inl hR), for_it (walk_enum (xs := ts.map V.ref)) (fun j σ H2 => Same H H2 ∧ (∃ v3 v4, σ = [some (.ref R), some (.str (T z)), some (.int i), v3, v4]) ∧ ∀ k ρ, k < j → rs[k]? = some ρ → fitsL ρ z i = false)
      ⟨Same.refl H, ⟨_, _, rfl⟩, fun k ρ h => absurd h (Nat.not_lt_zero k)⟩ (fun j σ H2 _ h => .inl (.inl (h.1 _ _ hR))) ?_ ?_⟩
    · rintro j x σ H2 H3 hj ⟨s2, ⟨v3, v4, rfl⟩, hn⟩ ⟨t, x1, x2, rfl, ht, rfl, g1, g2⟩
      cases g1
      have g2 : (ts.map V.ref)[j]? = some x2 := g2
      rw [List.getElem?_map] at g2
      obtain ⟨a, ha, e⟩ := Option.map_eq_some_iff.mp g2
      subst e
      obtain ⟨ρ, hρ, hat⟩ := paired_at hp ha
      have hm := ho ρ (List.mem_of_getElem? hρ)
      have sm := same_new ht (.tup [.int (j : Nat), .ref a])
      refine ⟨t, _, rfl, .inl (.inl upd_same), rfl, _, _, rfl, _, _, rfl, rfl, ?_⟩
      refine ⟨_, rfl, _, rfl, _, rfl, a, ρ, z, i, rfl, sm _ _ (s2 _ _ hat), hm.o2, hi1, hi, hw, hrm ρ (List.mem_of_getElem? hρ), _, rfl, ite2 (fun c => ?_) (fun c => ?_)⟩
      · refine ⟨_, rfl, ?_⟩
        have := q _ (s2.trans sm)
        have e : ff rs z i = some j := by
          refine List.findIdx?_eq_some_iff_getElem.mpr ⟨(List.getElem?_eq_some_iff.mp hρ).1, ?_, fun k hk => ?_⟩
          · rw [(List.getElem?_eq_some_iff.mp hρ).2]
            exact c
          · rw [hn k _ hk (List.getElem?_eq_getElem (by have := (List.getElem?_eq_some_iff.mp hρ).1; omega))]
            exact Bool.false_ne_true
        rw [e] at this
        exact this
      · refine ⟨s2.trans sm, ⟨_, _, rfl⟩, fun k ρ' hk hk' => ?_⟩
        by_cases e : k = j
        · subst e
          rw [hρ] at hk'
          cases hk'
          exact Bool.eq_false_iff.mpr c
        · exact hn k ρ' (by omega) hk'
    · rintro σ H2 ⟨s2, ⟨v3, v4, rfl⟩, hn⟩
      have := q _ s2
      have e : ff rs z i = none := by
        refine List.findIdx?_eq_none_iff.mpr fun ρ hρ => ?_
        obtain ⟨k, hk⟩ := List.mem_iff_getElem?.mp hρ
        have hl := (List.getElem?_eq_some_iff.mp hk).1
        exact hn k ρ (by rw [List.length_map, paired_len hp]; exact hl) hk
      rw [e] at this
      exact this
def spStL : Sp := fun vs H Q _ => ∃ (R : Addr) (rs : List Rule) (tl : List Nat), vs = [.ref R, .str (T tl)] ∧ RulesAtL H R rs ∧ (∀ ρ ∈ rs, RlOk ρ) ∧ 1 ≤ tl.length ∧ tl.length ≤ 81 ∧
  ∀ (t D : Addr) (H' : Hp), Same H H' → H D = none → H' t = some (.tup [.ref D, optI (Wt rs tl).2]) → StepsAt H' D (Wt rs tl).1 → Q (.ref t) H'
theorem ok_StL {f : Addr} {fd : FuncData} (F : Fun K "steps_of" "steps_of" sSt f fd) (B : Bn mg) (C : Cn mg) (cO : KI mg "OWN" 1) (DF : Df P w K mg base "first_fit" ["rules", "signs", "at"] 2 spFFL) : FnOk P w K mg base CX0 3 f fd ["rules", "tail"] spStL := by
  obtain ⟨fF, fdF, GF, kF, bF, mF⟩ := DF
  obtain ⟨tE, mE⟩ := C.edge
  obtain ⟨tO, mO⟩ := cO
  refine F.ok scSt (fun vs H Q E h => ?_) (fun cdv A outer s H vs Q E hr h => ?_)
  · obtain ⟨R, rs, tl, rfl, _⟩ := h
    rfl
  · obtain ⟨R, rs, tl, rfl, hR, ho, hl1, hw, q⟩ := h
    refine ⟨_, pss_cons (ps_set (i := 2) scSt.nd rfl (.inl rfl) (pe_op op_add_str (pv 1) (pe_glob (v := .str "#") rfl mE ⟨_, rfl⟩)))
      (pss_cons (ps_set (i := 3) scSt.nd rfl (.inl rfl) (pe_lst pa_nil))
      (pss_cons (ps_set (i := 4) scSt.nd rfl (.inl rfl) pe_int)
      (pss_cons (ps_while PassesOwn.never (pt_cmpR op_lt (pv 4) (pe_op op_sub (pe_callB call_len_str (by rfl) B.len PySem.boot_len (pa_cons (pv 2) pa_nil)) pe_int) (nomark _))
        (pss_cons (ps_set (i := 5) scSt.nd rfl (.inl rfl) (pe_call GF hr (by rfl) mF kF bF .nil pass0 (pa_cons (pv 0) (pa_cons (pv 2) (pa_cons (pv 4) pa_nil)))))
        (pss_cons (ps_if (pt_cmpR op_isN (pv 5) pe_non (nomark _)) (pss_one (ps_ret (pe_tup (pa_cons (pv 3) (pa_cons (pe_op op_sub (pv 4) pe_int) pa_nil))))) pss_nil)
        (pss_cons (ps_expr (pe_bm PySem.F.plainAttrs_list PySem.F.slot_list_append PySem.F.type_list_append mt_append (pv 3) (pa_cons (pe_tup (pa_cons (pe_op op_sub (pv 4) pe_int) (pa_cons (pv 5) pa_nil))) pa_nil)))
        (pss_one (ps_aug (i := 4) scSt.nd rfl (.inl rfl) (pe_callB call_len_str (by rfl) B.len PySem.boot_len (pa_cons (pe_ix ix_tup (pe_ix ix_list (pv 0) (pv 5) (fun _ _ => rfl)) (pe_glob (v := .int 1) rfl mO ⟨_, rfl⟩) (fun _ _ => rfl)) pa_nil)) ip_add))))))
      (pss_one (ps_ret (pe_tup (pa_cons (pv 3) (pa_cons pe_non pa_nil)))))))), ?_⟩
    refine ⟨_, rfl, _, _, rfl, rfl, (by rw [len_hash, T_len]; exact small (by omega)), ?_⟩
    rw [app_hash]
    show tSeq _ _ _ _ _
    refine ⟨(by show 0 ≤ sizeLine; decide), fun D hD => ?_⟩
    obtain ⟨rts, hRt, hRp⟩ := id hR
    have zl : (T (tl ++ [35])).length = tl.length + 1 := by rw [T_len, len1]
    have hz0 : (T (tl ++ [35])).length ≤ sizeLine := by rw [zl]; exact small (by omega)
    refine ⟨fun m σ H2 => ∃ (i : Nat) (acc : List (Nat × Nat)) (v5 : Option V), σ = [some (.ref R), some (.str (T tl)), some (.str (T (tl ++ [35]))), some (.ref D), some (.int i), v5] ∧ 1 ≤ i ∧ tl.length + 1 ≤ i + m ∧ Same H H2 ∧ StepsAt H2 D acc ∧
      Wt rs tl = (acc ++ (wk rs (tl ++ [35]) m i).1, (wk rs (tl ++ [35]) m i).2), ⟨tl.length, 1, [], _, rfl, Nat.le_refl _, by omega, same_new hD _, ⟨[], upd_same, .nil⟩, rfl⟩, fun m σ H2 hW => ?_⟩
    obtain ⟨i, acc, v5, rfl, hi1, hm, s2, hS, hW⟩ := hW
    refine ⟨_, rfl, _, rfl, _, rfl, hz0, _, _, rfl, rfl, _, _, rfl, rfl, _, rfl, ite2 (fun c => ?_) (fun c => ?_)⟩
    · have c' : (i : Int) < ((T (tl ++ [35])).length : Int) - 1 := of_decide_eq_true c
      rw [zl] at c'
      have hi : i < tl.length := by omega
      have hlt : i < (tl ++ [35]).length - 1 := by rw [len1]; omega
      obtain ⟨m', rfl⟩ : ∃ m', m = m' + 1 := ⟨m - 1, by omega⟩
      refine ⟨fun σ' H' => ∃ (i : Nat) (acc : List (Nat × Nat)) (v5 : Option V), σ' = [some (.ref R), some (.str (T tl)), some (.str (T (tl ++ [35]))), some (.ref D), some (.int i), v5] ∧ 1 ≤ i ∧ tl.length + 1 ≤ i + m' ∧ Same H H' ∧ StepsAt H' D acc ∧
        Wt rs tl = (acc ++ (wk rs (tl ++ [35]) m' i).1, (wk rs (tl ++ [35]) m' i).2), fun σ' H' h => ⟨m', Nat.lt_succ_self _, h⟩, ?_⟩
      refine ⟨_, rfl, _, rfl, _, rfl, R, rs, tl ++ [35], i, rfl, hR.same s2, ho, hi1, by rw [len1]; omega, by rw [len1]; omega, room_tl ho tl i, fun H3 s3 => ?_⟩
      have s23 := s2.trans s3
      obtain ⟨ts, hDl, hDp⟩ := hS.same s3
      cases e : ff rs (tl ++ [35]) i with
      | none =>
        rw [wk_none hlt e] at hW
        refine ⟨_, rfl, rfl, _, rfl, iteT ?_⟩
        refine ⟨_, rfl, _, rfl, _, _, rfl, rfl, (by show 2 ≤ sizeLine; decide), fun t ht => ?_⟩
        have sm := same_new ht (.tup [.ref D, .int ((i : Int) - 1)])
        refine q t D _ (s23.trans sm) hD ?_ ?_
        · rw [upd_same, hW]
          show some (HO.tup [V.ref D, V.int ((i : Int) - 1)]) = some (HO.tup [V.ref D, V.int ((i - 1 : Nat) : Int)])
          rw [show ((i - 1 : Nat) : Int) = (i : Int) - 1 by omega]
        · rw [hW, List.append_nil]
          exact StepsAt.same ⟨ts, hDl, hDp⟩ sm
      | some k =>
        rw [wk_some hlt e] at hW
        have hk := ff_lt e
        obtain ⟨a, ha, hat⟩ := paired_at' hRp (List.getElem?_eq_getElem hk)
        have hm2 := ho _ (List.getElem_mem hk)
        have er : ruleAt rs k = rs[k] := ruleAt_eq (List.getElem?_eq_getElem hk)
        refine ⟨_, rfl, rfl, _, rfl, ?_⟩
        rw [show decide (optI (some k) = V.non) = false from decide_eq_false (fun z => by cases z)]
        refine iteF ?_
        refine ⟨_, rfl, .inl ⟨rfl, _, .inl (.inl hDl)⟩, _, rfl, _, _, rfl, rfl, _, rfl, (by show 2 ≤ sizeLine; decide), fun t ht => ?_⟩
        have sm := same_new ht (.tup [.int ((i : Int) - 1), .int (k : Nat)])
        have hDl' := sm _ _ hDl
        have sall : Same H (upd (upd H3 t (.tup [.int ((i : Int) - 1), .int (k : Nat)])) D (.lst (ts.map V.ref ++ [.ref t]))) := fun b u e => by
          rw [upd_ne (ne_of_none e hD)]
          exact sm _ _ (s23 _ _ e)
        refine ⟨D, _, _, rfl, rfl, hDl', ?_, ?_⟩
        · rw [List.length_map, paired_len hDp]
          have l1 : (Wt rs tl).1.length ≤ tl.length := wk_len rs (tl ++ [35]) tl.length 1
          rw [hW] at l1
          simp at l1
          exact small1000 (by omega)
        · have kR : Same H3 (upd (upd H3 t (.tup [.int ((i : Int) - 1), .int (k : Nat)])) D (.lst (ts.map V.ref ++ [.ref t]))) → True := fun _ => trivial
          have atR := sall _ _ hRt
          have ata := sall _ _ hat
          refine ⟨_, rfl, _, rfl, _, rfl, R, _, (k : Int), .ref a, rfl, rfl, .inl (.inl atR), atI_nat (by rw [List.getElem?_map, ha]; rfl), a, _, 1, .str (T rs[k].ow), rfl, rfl, .inl (.inl ata), atI_nat (j := 1) rfl, _, rfl, (by rw [T_len]; have := hm2.o2; exact small (by omega)), _, _, rfl, rfl, ?_⟩
          refine ⟨i + rs[k].ow.length, acc ++ [(i - 1, k)], some (.int (k : Nat)), ?_, by omega, by have := hm2.o1; omega, sall, ?_, ?_⟩
          · have ee : ((i + rs[k].ow.length : Nat) : Int) = (i : Int) + ((T rs[k].ow).length : Int) := by rw [T_len]; omega
            rw [ee]
            rfl
          · refine ⟨ts ++ [t], by rw [upd_same, List.map_append]; rfl, paired_app (paired_mono (fun t' s h => ?_) hDp) (.cons ?_ .nil)⟩
            · rw [upd_ne (ne_of h hDl (by intro z; cases z))]
              exact sm _ _ h
            · rw [upd_ne (ne_of_none hDl ht).symm, upd_same]
              show some (HO.tup [V.int ((i : Int) - 1), V.int (k : Nat)]) = some (HO.tup [V.int ((i - 1 : Nat) : Int), V.int (k : Nat)])
              rw [show ((i - 1 : Nat) : Int) = (i : Int) - 1 by omega]
          · rw [hW, er, List.append_assoc]
            rfl
    · have c' : ¬ (i : Int) < ((T (tl ++ [35])).length : Int) - 1 := of_decide_eq_false (Bool.eq_false_iff.mpr c)
      rw [zl] at c'
      rw [wk_end rs (tl ++ [35]) m i (by rw [len1]; omega)] at hW
      refine ⟨_, rfl, (by show 2 ≤ sizeLine; decide), fun t ht => ?_⟩
      have sm := same_new ht (.tup [.ref D, .non])
      refine q t D _ (s2.trans sm) hD ?_ ?_
      · rw [upd_same, hW]
        rfl
      · rw [hW, List.append_nil]
        exact hS.same sm
def spSouL : Sp := fun vs H Q _ => ∃ (R D : Addr) (rs : List Rule) (ks : List Nat), vs = [.ref R, .ref D] ∧ RulesAtL H R rs ∧ (∀ ρ ∈ rs, RlOk ρ) ∧ H D = some (.lst (ks.map fun k => V.int (k : Nat))) ∧ (∀ k ∈ ks, k < rs.length) ∧ ks.length ≤ 200 ∧
  ∀ (H' : Hp), Same H H' → Q (.str (T (soL rs ks))) H'
theorem ok_souL {f : Addr} {fd : FuncData} {k : Nat} (F : Fun K "sounds_of" "sounds_of" sSou f fd) (cS : KI mg "SOUNDS" 3) : FnOk P w K mg base CX0 (k + 1) f fd ["rules", "numbers"] spSouL := by
  obtain ⟨tS, mS⟩ := cS
  refine F.ok scSou (fun vs H Q E h => ?_) (fun cdv A outer s H vs Q E hr h => ?_)
  · obtain ⟨R, D, rs, ks, rfl, _⟩ := h
    rfl
  · obtain ⟨R, D, rs, ks, rfl, ⟨rts, hR, hRp⟩, ho, hD, hk, hl, q⟩ := h
    refine ⟨_, pss_one (ps_ret (pe_join pe_str (pe_lc (own := [("number", 2)]) (g := gName 2) (te := tOp (rIxT K) (tOp (rIxL K) (tVar 0) (tVar 2)) (tC (.int 3))) rfl scSou.nd (pi_list (pv 1))
        (blkOk_by (N := ["rules", "numbers", "number"]) (sc := defScope sSou) (by decide +kernel)) (fun _ _ _ _ _ => pg_name (i := 2) scSou.nd rfl (.inl rfl))
        (fun _ _ _ _ _ => pts_nil) (fun _ _ _ _ _ => pe_ix ix_tup (pe_ix ix_list (pv 0) (pv 2) (fun _ _ => rfl)) (pe_glob (v := .int 3) rfl mS ⟨_, rfl⟩) (fun _ _ => rfl))))), ?_⟩
    refine ⟨⟨_, rfl⟩, _, rfl, D, rfl, ⟨_, .inl (.inl hD)⟩, fun D' hD' => ?_⟩
    refine lc_it (walk_list (xs := ks.map fun k => V.int (k : Nat))) (fun i H2 => H2 D' = some (.lst ((((ks.take i).map fun k => (ruleAt rs k).so).map T).map V.str)) ∧ Same H H2) ?_ (fun i H2 _ h => .inl (.inl (h.2 _ _ hD))) ?_ ?_
    · exact ⟨upd_same, same_new hD' _⟩
    · rintro i x H2 H2' hi ⟨e1, e2⟩ ⟨rfl, hx⟩
      rw [List.getElem?_map] at hx
      obtain ⟨j, hj, e⟩ := Option.map_eq_some_iff.mp hx
      subst e
      have hjl := hk j (List.mem_of_getElem? hj)
      have hi2 : i < ks.length := (List.getElem?_eq_some_iff.mp hj).1
      obtain ⟨a, ha, hat⟩ := paired_at' hRp (List.getElem?_eq_getElem hjl)
      have er : ruleAt rs j = rs[j] := ruleAt_eq (List.getElem?_eq_getElem hjl)
      refine ⟨rfl, ?_⟩
      refine ⟨_, rfl, _, rfl, R, _, (j : Int), .ref a, rfl, rfl, .inl (.inl (e2 _ _ hR)), atI_nat (by rw [List.getElem?_map, ha]; rfl), a, _, 3, .str (T rs[j].so), rfl, rfl, .inl (.inl (e2 _ _ hat)), atI_nat (j := 3) rfl, _, e1, ?_, ?_, ?_⟩
      · rw [List.length_map, List.length_map, List.length_map, List.length_take]
        exact small1000 (by omega)
      · rw [upd_same, List.take_add_one, hj]
        simp only [Option.toList_some, List.map_append, List.map_cons, List.map_nil, er]
      · exact fun b u q => by
          rw [upd_ne (ne_of_none q hD')]
          exact e2 b u q
    · rintro H2 ⟨e1, e2⟩
      rw [List.length_map, List.take_length] at e1
      refine ⟨Str.ofString "", D', (ks.map fun k => (ruleAt rs k).so).map T, rfl, rfl, .inl (.inl (.inl e1)), ?_, ?_⟩
      · rw [sum_T]
        have := flat_len ho ks hk
        show (soL rs ks).length + _ * 0 ≤ _
        omega
      · rw [show Str.ofString "" = T [] from nil_eq, join_nil]
        exact q H2 e2
def spEndL : Sp := fun vs H Q _ => ∃ (R : Addr) (rs : List Rule) (tl : Option (List Nat)), vs = [.ref R, optT tl] ∧ RulesAtL H R rs ∧ (∀ ρ ∈ rs, RlOk ρ) ∧ TlOk tl ∧
  ∀ (v : V) (H' : Hp), Same H H' → EndV H' v (endM rs tl) → Q v H'
theorem ok_endL {f : Addr} {fd : FuncData} (F : Fun K "ending" "ending" sEnd f fd) (DS : Df P w K mg base "steps_of" ["rules", "tail"] 3 spStL) (DN : Df P w K mg base "numbers_of" ["steps"] 1 spNum) : FnOk P w K mg base CX0 4 f fd ["rules", "tail"] spEndL := by
  obtain ⟨fS, fdS, GS, kS, bS, mS⟩ := DS
  obtain ⟨fN, fdN, GN, kN, bN, mN⟩ := DN
  refine F.ok scEnd (fun vs H Q E h => ?_) (fun cdv A outer s H vs Q E hr h => ?_)
  · obtain ⟨R, rs, tl, rfl, _⟩ := h
    rfl
  · obtain ⟨R, rs, tl, rfl, hR, ho, hw, q⟩ := h
    have hr1 : Room 1 _ := hr.mono (by decide)
    refine ⟨_, pss_cons (ps_if (pt_cmpR op_isN (pv 1) pe_non (nomark _)) (pss_one (ps_ret pe_non)) pss_nil)
      (pss_cons (ps_asg (pe_call GS hr (by rfl) mS kS bS .nil pass0 (pa_cons (pv 0) (pa_cons (pv 1) pa_nil))) (pg_tup (by rfl) (pgs_cons (pg_name (i := 2) scEnd.nd rfl (.inl rfl)) (pgs_cons (pg_name (i := 3) scEnd.nd rfl (.inl rfl)) pgs_nil))))
      (pss_cons (ps_if (pt_cmpR op_notN (pv 3) pe_non (nomark _)) (pss_one (ps_ret pe_non)) pss_nil)
      (pss_one (ps_ret (pe_call GN hr1 (by rfl) mN kN bN .nil pass0 (pa_cons (pv 2) pa_nil)))))), ?_⟩
    cases tl with
    | none =>
      refine ⟨_, rfl, rfl, _, rfl, iteT ?_⟩
      exact q _ H (Same.refl H) rfl
    | some tl =>
    obtain ⟨h1, h81⟩ := hw tl rfl
    refine ⟨_, rfl, rfl, _, rfl, ?_⟩
    rw [show decide (optT (some tl) = V.non) = false from decide_eq_false (fun z => by cases z)]
    refine iteF ?_
    refine ⟨_, rfl, _, rfl, R, rs, tl, rfl, hR, ho, h1, h81, fun t D H1 s1 hD ht hS => ?_⟩
    refine ⟨t, _, rfl, .inl (.inl ht), rfl, _, _, rfl, _, _, rfl, rfl, ?_⟩
    refine ⟨_, rfl, rfl, _, rfl, ?_⟩
    simp only [endM] at q
    cases e : (Wt rs tl).2 with
    | some p =>
      rw [e, if_neg (fun z => by cases z)] at q
      rw [show decide (optI (some p) = V.non) = false from decide_eq_false (fun z => by cases z)]
      refine iteT ?_
      exact q _ H1 s1 rfl
    | none =>
      rw [e, if_pos rfl] at q
      refine iteF ?_
      have hl : (Wt rs tl).1.length ≤ tl.length := wk_len rs (tl ++ [35]) tl.length 1
      refine ⟨_, rfl, D, _, rfl, hS, by omega, fun D' H2 s2 _ h2 => ?_⟩
      refine q _ H2 (s1.trans s2) ⟨D', rfl, ?_⟩
      rw [h2, List.map_map]
      rfl
def spEnSL : Sp := fun vs H Q _ => ∃ (R : Addr) (rs : List Rule) (tl : Option (List Nat)), vs = [.ref R, optT tl] ∧ RulesAtL H R rs ∧ (∀ ρ ∈ rs, RlOk ρ) ∧ TlOk tl ∧
  ∀ (H' : Hp), Same H H' → Q (optT (ensM rs tl)) H'
theorem ok_enSL {f : Addr} {fd : FuncData} (F : Fun K "ending_sounds" "ending_sounds" sEnS f fd) (DE : Df P w K mg base "ending" ["rules", "tail"] 4 spEndL) (DN : Df P w K mg base "sounds_of" ["rules", "numbers"] 1 spSouL) : FnOk P w K mg base CX0 5 f fd ["rules", "tail"] spEnSL := by
  obtain ⟨fS, fdS, GS, kS, bS, mS⟩ := DE
  obtain ⟨fN, fdN, GN, kN, bN, mN⟩ := DN
  refine F.ok scEnS (fun vs H Q E h => ?_) (fun cdv A outer s H vs Q E hr h => ?_)
  · obtain ⟨R, rs, tl, rfl, _⟩ := h
    rfl
  · obtain ⟨R, rs, tl, rfl, hR, ho, hw, q⟩ := h
    have hr1 : Room 1 _ := hr.mono (by decide)
    refine ⟨_, pss_cons (ps_set (i := 2) scEnS.nd rfl (.inl rfl) (pe_call GS hr (by rfl) mS kS bS .nil pass0 (pa_cons (pv 0) (pa_cons (pv 1) pa_nil))))
      (pss_cons (ps_if (pt_cmpR op_isN (pv 2) pe_non (nomark _)) (pss_one (ps_ret pe_non)) pss_nil)
      (pss_one (ps_ret (pe_call GN hr1 (by rfl) mN kN bN .nil pass0 (pa_cons (pv 0) (pa_cons (pv 2) pa_nil)))))), ?_⟩
    refine ⟨_, rfl, _, rfl, R, rs, tl, rfl, hR, ho, hw, fun v H1 s1 hv => ?_⟩
    unfold ensM at q
    cases e : endM rs tl with
    | none =>
      rw [e] at hv q
      cases hv
      refine ⟨_, rfl, rfl, _, rfl, iteT ?_⟩
      exact q H1 s1
    | some ks =>
      rw [e] at hv q
      obtain ⟨D, rfl, hD⟩ := hv
      obtain ⟨hk, hl⟩ := end_ks e hw
      refine ⟨_, rfl, rfl, _, rfl, ?_⟩
      rw [show decide (V.ref D = V.non) = false from decide_eq_false (fun z => by cases z)]
      refine iteF ?_
      exact ⟨_, rfl, _, rfl, R, D, rs, ks, rfl, hR.same s1, ho, hD, hk, by omega, fun H2 s2 => q H2 (s1.trans s2)⟩
def spWSL : Sp := fun vs H Q _ => ∃ (R : Addr) (rs : List Rule) (wd : List Nat), vs = [.ref R, .str (T wd)] ∧ RulesAtL H R rs ∧ (∀ ρ ∈ rs, RlOk ρ) ∧ wd.length ≤ 80 ∧
  ∀ (H' : Hp), Same H H' → Q (optT (sayW rs wd)) H'
theorem ok_WSL {f : Addr} {fd : FuncData} (F : Fun K "word_sounds" "word_sounds" sWS f fd) (C : Cn mg) (DE : Df P w K mg base "ending_sounds" ["rules", "tail"] 5 spEnSL) : FnOk P w K mg base CX0 6 f fd ["rules", "word"] spWSL := by
  obtain ⟨fE, fdE, GE, kE, bE, mE⟩ := DE
  obtain ⟨tE, mG⟩ := C.edge
  refine F.ok scWS (fun vs H Q E h => ?_) (fun cdv A outer s H vs Q E hr h => ?_)
  · obtain ⟨R, rs, wd, rfl, _⟩ := h
    rfl
  · obtain ⟨R, rs, wd, rfl, hR, ho, hw, q⟩ := h
    refine ⟨_, pss_one (ps_ret (pe_call GE hr (by rfl) mE kE bE .nil pass0 (pa_cons (pv 0) (pa_cons (pe_op op_add_str (pe_glob (v := .str "#") rfl mG ⟨_, rfl⟩) (pv 1)) pa_nil)))), ?_⟩
    exact ⟨_, rfl, _, rfl, _, _, rfl, rfl, (by rw [len_hash, T_len]; exact small (by omega)), R, rs, some (35 :: wd), (by rw [hash_app]; rfl), hR, ho, (fun t e => by cases e; exact ⟨by simp, by simp; omega⟩), fun H1 s1 => by have := q H1 s1; rw [sayW_ens] at this; exact this⟩
def spIsSaidL : Sp := fun vs H Q _ => ∃ (R t : Addr) (rs : List Rule) (e : Exc), vs = [.ref R, .ref t] ∧ RulesAtL H R rs ∧ (∀ ρ ∈ rs, RlOk ρ) ∧ H t = some (.tup [.str (T e.1), .str (T e.2)]) ∧ e.1.length ≤ 80 ∧
  ∀ (H' : Hp), Same H H' → Q (.bl (decide (sayW rs e.1 = some e.2))) H'
theorem ok_isSaidL {f : Addr} {fd : FuncData} (F : Fun K "is_said" "is_said" sIsSaid f fd) (DE : Df P w K mg base "word_sounds" ["rules", "word"] 6 spWSL) : FnOk P w K mg base CX0 7 f fd ["rules", "sample"] spIsSaidL := by
  obtain ⟨fE, fdE, GE, kE, bE, mE⟩ := DE
  refine F.ok scIsSaid (fun vs H Q E h => ?_) (fun cdv A outer s H vs Q E hr h => ?_)
  · obtain ⟨R, t, rs, e, rfl, _⟩ := h
    rfl
  · obtain ⟨R, t, rs, e, rfl, hR, ho, ht, hw, q⟩ := h
    refine ⟨_, pss_cons (ps_asg (pv 1) (pg_tup (by rfl) (pgs_cons (pg_name (i := 2) scIsSaid.nd rfl (.inl rfl)) (pgs_cons (pg_name (i := 3) scIsSaid.nd rfl (.inl rfl)) pgs_nil))))
      (pss_one (ps_ret (pe_cmpR op_eq (pe_call GE hr (by rfl) mE kE bE .nil pass0 (pa_cons (pv 0) (pa_cons (pv 2) pa_nil))) (pv 3) (nomark _)))), ?_⟩
    refine ⟨_, rfl, t, _, rfl, .inl (.inl ht), rfl, _, _, rfl, _, _, rfl, rfl, ?_⟩
    refine ⟨_, rfl, _, rfl, R, rs, e.1, rfl, hR, ho, hw, fun H1 s1 => ?_⟩
    have hsc : scal (optT (sayW rs e.1)) (V.str (T e.2)) = true := by
      cases sayW rs e.1 <;> rfl
    refine ⟨_, rfl, hsc, ?_⟩
    have := q H1 s1
    rw [← eqO] at this
    exact this
end
end Say
/-! all of a generator expression whose test may call: its frame is a context of its own -/
namespace AG
open PySem PySem.Spec PyProof.Rows L2 GenW
/-- the context of a generator expression's frame -/
abbrev gx (X : Cx) (GA : Around) (s : Shared) (H : Hp) (N : List Str) (cenv : Env) (fp : List Addr) : Cx := { X with A := GA, N := N, s_0 := s, H_0 := H, env := cenv, outer := X.stack, stack := cenv :: X.stack, ex := fp, fn := fun _ => false, calm := true, pn := [], xe := fun _ _ => False }
abbrev gExp (elt iter : Expr) (x : Str) (px : Pos) (scope : Scope) (pos : Pos) : Expr := .GeneratorExp elt [⟨.Name x px, iter, [], 0⟩] scope pos
abbrev gLoop (elt iter : Expr) (x : Str) (px : Pos) (scope : Scope) (pos : Pos) (it : Addr) (cenv : Env) : Code := .compLoop (gExp elt iter x px scope pos) 0 (.ref it) .none cenv
abbrev gAr (A : Around) (elt iter : Expr) (x : Str) (px : Pos) (scope : Scope) (pos : Pos) (it : Addr) (cenv : Env) : Around := A.in1.in1.over (gLoop elt iter x px scope pos it cenv) []
/-- the generator expression's own scope: its name x, the walked thing at «.0», one captured name y -/
structure GSc (scope : Scope) (x y : Str) : Prop where
  kind : scope.kind = .function
  co : scope.isCoroutine = false
  cell : ∀ z ∈ scope.names, z.2 ≠ .cell
  dot : scope.names.lookup (".0" : Str) = some NameKind.local
  loc : scope.names.lookup x = some .local
  fr : scope.names.lookup y = some .free
  only : ∀ z ∈ scope.names, z.2 = .free → z.1 = y
  clo : ∀ cells, cloFrom cells scope.names [] = [(y, (cells.lookup y).getD 0)]
  ne : [y, x].Nodup
theorem lookup_mem {α : Type} {l : List (Str × α)} {n : Str} {c : α} (h : l.lookup n = some c) : (n, c) ∈ l := PySem.mem_of_lookup h
section
variable {X : Cx} {elt iter : Expr} {x y : Str} {px pos : Pos} {scope : Scope} {it a : Addr} {g : Nat} {cenv : Env} {fp : List Addr} {tn : Nat → Heap → Prop} {J : It} {sB : Shared} {HB : Hp} {ob : Obj} {rv : V} {Q : VK} {W : Nat → Hp → Prop} {te : TE} {n0 : Nat}
def GInv (X : Cx) (GA : Around) (sB : Shared) (HB : Hp) (x y : Str) (cenv : Env) (fp : List Addr) (a : Addr) (ob : Obj) (rv : V) (H : Hp) (s : Shared) : Prop := ∃ σ2, Inv (gx X GA sB HB [y, x] cenv fp) [(a, ob)] [some rv, σ2] H s
def GI (X : Cx) (GA : Around) (sB : Shared) (HB : Hp) (x y : Str) (cenv : Env) (fp : List Addr) (tn : Nat → Heap → Prop) (a : Addr) (ob : Obj) (rv : V) (i : Nat) (H : Hp) (s : Shared) : Prop :=
  GInv X GA sB HB x y cenv fp a ob rv H s ∧ tn i s.heap ∧ ∀ b ∈ fp, H b = none
def GP (X : Cx) (GA : Around) (sB : Shared) (HB : Hp) (x y : Str) (cenv : Env) (fp : List Addr) (a : Addr) (ob : Obj) (rv : V) (Q : VK) : Nat → Shared → Shared → Prop := fun _ _ s₁ => ∃ H, GInv X GA sB HB x y cenv fp a ob rv H s₁ ∧ Q (.bl true) H
def GY (X : Cx) (GA : Around) (sB : Shared) (HB : Hp) (x y : Str) (cenv : Env) (fp : List Addr) (tn : Nat → Heap → Prop) (a : Addr) (ob : Obj) (rv : V) (Q : VK) (W : Nat → Hp → Prop) (n0 : Nat) : Protocol := fun m _ v s kap =>
  ∃ i H, i + m = n0 ∧ GI X GA sB HB x y cenv fp tn a ob rv i H s ∧ ((v = .bool true ∧ W i H ∧ ∀ s'' H'', W i H'' → GI X GA sB HB x y cenv fp tn a ob rv i H'' s'' → kap (.send .none) s'') ∨ (v = .bool false ∧ Q (.bl false) H))
theorem GInv.gens {GA : Around} {H : Hp} {s : Shared} (I : GInv X GA sB HB x y cenv fp a ob rv H s) {k : Nat} {z : GenState} (hz : z.bare = true) : GInv X GA sB HB x y cenv fp a ob rv H (s.setGen k z) := by
  obtain ⟨σ2, I⟩ := I
  exact ⟨σ2, ⟨I.ok, I.os, allBare_setGen I.bare hz, I.base, I.loc, I.cell, I.free, I.freeC, I.pin, I.hok, I.len⟩⟩
theorem GI.gens {GA : Around} {i : Nat} {H : Hp} {s : Shared} (I : GI X GA sB HB x y cenv fp tn a ob rv i H s) {k : Nat} {z : GenState} (hz : z.bare = true) : GI X GA sB HB x y cenv fp tn a ob rv i H (s.setGen k z) :=
  ⟨I.1.gens hz, I.2.1, I.2.2⟩
/-- what the walk of the generator is promised, turn by turn -/
def Walk (J : It) (Q : VK) (W : Nat → Hp → Prop) (te : TE) (rv : V) (n0 : Nat) : Prop := ∀ i H, W i H → (J.stop i H ∧ Q (.bl true) H) ∨ (i < n0 ∧ J.go i H ∧ ∀ v H', J.yld i H v H' → te [some rv, some v] H' fun b H2 => (b = .bl true ∧ W (i + 1) H2) ∨ (b = .bl false ∧ Q (.bl false) H2))
theorem seg_loop (hsc : cenv.scope = scope) (S : GSc scope x y) (T : Turn X.prog X.w X.K (.Name x px) J fp it tn) (hap : ∀ b ∈ fp, a ≠ b)
    (hel : PE (gx X (gAr X.A elt iter x px scope pos it cenv) sB HB [y, x] cenv fp) elt te) (turn : Walk J Q W te rv n0) :
    ∀ (n i : Nat) (s₀ s : Shared) (H : Hp), i + n = n0 → W i H → GI X (gAr X.A elt iter x px scope pos it cenv) sB HB x y cenv fp tn a ob rv i H s →
      Seg (model X.prog X.w) X.A.in1.in1 (fun n s₀ r s₁ => r = .ok .next ∧ GP X (gAr X.A elt iter x px scope pos it cenv) sB HB x y cenv fp a ob rv Q n s₀ s₁) (GY X (gAr X.A elt iter x px scope pos it cenv) sB HB x y cenv fp tn a ob rv Q W n0) n s₀
        (gLoop elt iter x px scope pos it cenv) ((model X.prog X.w).den (gLoop elt iter x px scope pos it cenv)) [] s := by
  have stat : ∀ {σ' : L2.St} {H' : Hp} {s' : Shared}, Inv (gx X (gAr X.A elt iter x px scope pos it cenv) sB HB [y, x] cenv fp) [(a, ob)] σ' H' s' → (∀ b ∈ fp, H' b = none) → ∀ b ∈ fp, FpOk (gx X (gAr X.A elt iter x px scope pos it cenv) sB HB [y, x] cenv fp) [(a, ob)] H' b := fun {σ' H' s'} I' hn b hb =>
    ⟨hn b hb, (I'.ok.exf b hb).1, I'.ok.exfs b hb, .inl hb, fun x c e => (I'.ok.exf b hb).2 x c e, fun p hp => by
      rcases List.mem_cons.mp (show p ∈ [(a, ob)] from hp) with rfl | hp
      · exact hap b hb
      · cases hp⟩
  intro n
  induction n with
  | zero =>
    intro i s₀ s H hn hW hG
    obtain ⟨⟨σ2, I⟩, st, nf⟩ := hG
    show Seg _ _ _ _ _ s₀ _ ((compTurn (gExp elt iter x px scope pos) 0 (.ref it) .none cenv).onRaise (leaving cenv)) [] s
    rw [compTurn_gen, Sem.onRaise_eq_wrap]
    refine seg_bind_wrap (wpAny_standAt ?_)
    rcases turn i H hW with ⟨stop, q⟩ | ⟨lt, _⟩
    · refine seg_bind_wrap (thnF (T.done (gx X (gAr X.A elt iter x px scope pos it cenv) sB HB [y, x] cenv fp) rfl rfl rfl rfl i [(a, ob)] s _ H (fun _ _ => False) I (stat I nf) st stop) (fun r s1 h => ?_))
      obtain ⟨rfl, I1⟩ := h
      exact seg_end (.ok .next) ⟨rfl, H, ⟨σ2, I1⟩, q⟩
    · omega
  | succ n ih =>
    intro i s₀ s H hn hW hG
    obtain ⟨⟨σ2, I⟩, st, nf⟩ := hG
    show Seg _ _ _ _ _ s₀ _ ((compTurn (gExp elt iter x px scope pos) 0 (.ref it) .none cenv).onRaise (leaving cenv)) [] s
    rw [compTurn_gen, Sem.onRaise_eq_wrap]
    refine seg_bind_wrap (wpAny_standAt ?_)
    rcases turn i H hW with ⟨stop, q⟩ | ⟨lt, go, step⟩
    · refine seg_bind_wrap (thnF (T.done (gx X (gAr X.A elt iter x px scope pos it cenv) sB HB [y, x] cenv fp) rfl rfl rfl rfl i [(a, ob)] s _ H (fun _ _ => False) I (stat I nf) st stop) (fun r s1 h => ?_))
      obtain ⟨rfl, I1⟩ := h
      exact seg_end (.ok .next) ⟨rfl, H, ⟨σ2, I1⟩, q⟩
    · refine seg_bind_wrap (thnF (T.item (gx X (gAr X.A elt iter x px scope pos it cenv) sB HB [y, x] cenv fp) rfl rfl rfl rfl i [(a, ob)] s _ H (fun _ _ => False) I (stat I nf) st go) (fun r s1 h => ?_))
      obtain ⟨u, rfl, h⟩ := h
      refine seg_bind_wrap (thnF h (fun _ s2 h2 => ?_))
      obtain ⟨v, H2, I2, r2, y2, st2, nf2⟩ := h2
      have I2' := I2.pinned (stat I2 nf2) (T.obj _ _ st2)
      have pg : PG (gx X (gAr X.A elt iter x px scope pos it cenv) sB HB [y, x] cenv fp) (.Name x px) (gName 1) := pg_name (i := 1) S.ne rfl (.inl (by show cenv.scope.names.lookup x = _; rw [hsc]; exact S.loc)) (.inr (by show cenv.scope.names.lookup x = _; rw [hsc]; exact S.loc))
      refine seg_bind_wrap (thnF (pg.run _ s2 _ H2 v u (fun σ3 H3 => σ3 = [some rv, some v] ∧ H3 = H2) I2' r2 ⟨rfl, rfl⟩) (fun _ s3 h3 => ?_))
      obtain ⟨σ3, H3, I3, rfl, rfl⟩ := h3
      refine seg_bind_wrap (wpAny_of_eq (a := true) (by simp only [List.forIn_nil]) ?_)
      simp only [if_true]
      have hy : ∀ v, yieldOut cenv v = yieldValue v := fun v => by simp only [yieldOut, hsc, S.co, Bool.false_eq_true, if_false]
      simp only [hy]
      rw [Sem.bind_eq_wrap', Sem.bind_eq_wrap', Sem.wrap_wrap, Sem.wrap_wrap]
      refine seg_wrap (thnF (hel.run _ s3 _ _ _ I3 (step v _ y2)) (fun b s4 h4 => ?_))
      obtain ⟨bv, H4, I4, r4, q4⟩ := h4
      have st4 : tn (i + 1) s4.heap := T.keep _ _ _ st2 fun b hb o e => (I4.pin (b, o) (List.mem_append_right _ (List.mem_append_right _ (mem_pinsAt hb e)))).1
      have nf4 : ∀ b ∈ fp, H4 b = none := fun b hb => by
        obtain ⟨o, e, d⟩ := T.obj _ _ st2 b hb
        exact (I4.pin (b, o) (List.mem_append_right _ (List.mem_append_right _ (mem_pinsAt hb e)))).2.1
      have G4 : GI X (gAr X.A elt iter x px scope pos it cenv) sB HB x y cenv fp tn a ob rv (i + 1) H4 s4 := ⟨⟨_, I4.unpinned⟩, st4, nf4⟩
      refine seg_at (seg_yield rfl rfl rfl ⟨i + 1, H4, by omega, G4, ?_⟩)
      rcases q4 with ⟨rfl, w4⟩ | ⟨rfl, q4⟩
      · exact .inl ⟨r4, w4, fun s'' H'' hW'' hG'' => seg_again rfl (ih (i + 1) s'' s'' H'' (by omega) hW'' hG'')⟩
      · exact .inr ⟨r4, q4⟩
theorem seg_start (hsc : cenv.scope = scope) (S : GSc scope x y) (T : Turn X.prog X.w X.K (.Name x px) J fp it tn) (hap : ∀ b ∈ fp, a ≠ b)
    (hel : PE (gx X (gAr X.A elt iter x px scope pos it cenv) sB HB [y, x] cenv fp) elt te) (turn : Walk J Q W te rv n0) (s₀ s : Shared) (H : Hp) (hW : W 0 H) (hG : GI X (gAr X.A elt iter x px scope pos it cenv) sB HB x y cenv fp tn a ob rv 0 H s) :
      Seg (model X.prog X.w) X.A.in1.in1 (fun n s₀ r s₁ => r = .ok .next ∧ GP X (gAr X.A elt iter x px scope pos it cenv) sB HB x y cenv fp a ob rv Q n s₀ s₁) (GY X (gAr X.A elt iter x px scope pos it cenv) sB HB x y cenv fp tn a ob rv Q W n0) n0 s₀
        (.compStart (gExp elt iter x px scope pos) 0 (.ref it) .none cenv) ((model X.prog X.w).den (.compStart (gExp elt iter x px scope pos) 0 (.ref it) .none cenv)) [] s := by
  have loop := fun s₀ => seg_loop (iter := iter) (pos := pos) (elt := elt) (sB := sB) (HB := HB) (ob := ob) hsc S T hap hel turn n0 0 s₀ s H (Nat.zero_add _) hW hG
  show Seg _ _ _ _ _ s₀ _ ((compStart (gExp elt iter x px scope pos) 0 (.ref it) .none cenv).onRaise (leaving cenv)) [] s
  unfold compStart
  rw [Sem.onRaise_eq_wrap]
  show Seg _ _ _ _ _ s₀ _ ((ask >>= _).wrap _ _ _ _) [] s
  refine seg_bind_wrap (wpAny_askSetting ?_)
  split
  · exact seg_again rfl (loop s₀)
  · first
      | exact seg_bind_wrap (wpAny_rule (seg_bind_wrap (wpAny_standAt (seg_bind_wrap (T.self _ 0 s _ _ hG.2.1 (seg_again rfl (loop s₀)))))))
      | (refine seg_bind_wrap (wpAny_rule ?_); show Seg _ _ _ _ _ s₀ _ ((standAt iter.pos >>= _).wrap _ _ _ _) [] s; exact seg_bind_wrap (wpAny_standAt (seg_bind_wrap (T.self _ 0 s _ _ hG.2.1 (seg_again rfl (loop s₀))))))
/-- the generator's record -/
abbrev gOb (g : Nat) (nm qn : Value) : Obj := { cls := .type "generator", data := .fields #[.int g 0, nm, qn] }
theorem isGen {GA : Around} {H : Hp} {s : Shared} {nm qn : Value} (I : GInv X GA sB HB x y cenv fp a (gOb g nm qn) rv H s) : s.heap.IsGen a g := by
  obtain ⟨σ2, I⟩ := I
  exact ⟨_, nm, qn, (I.pin (a, gOb g nm qn) (List.mem_append_right _ List.mem_cons_self)).1, rfl, rfl, rfl⟩
theorem GInv.heap {GA : Around} {H : Hp} {s : Shared} {h' : Heap} (I : GInv X GA sB HB x y cenv fp a ob rv H s) (hk : ∀ b o, s.heap.get? b = some o → h'.get? b = some o) : GInv X GA sB HB x y cenv fp a ob rv H { s with heap := h' } := by
  obtain ⟨σ2, I⟩ := I
  exact ⟨σ2, I.kept (t' := s.toks) hk⟩
theorem all_loop {GA : Around} {nm qn : Value} {k : Nat} (hr : Room k X.A) {R : Result → Shared → Prop} (hR : ∀ b H s, Q (.bl b) H → GInv X GA sB HB x y cenv fp a (gOb g nm qn) rv H s → R (.ok (.ret (.bool b))) s) :
    ∀ (n i : Nat) (s : Shared) (H : Hp) (gs : GenState), i + n = n0 → W i H → GI X GA sB HB x y cenv fp tn a (gOb g nm qn) rv i H s → s.gens[g]? = some gs →
      (∀ s'' H'', W i H'' → GI X GA sB HB x y cenv fp tn a (gOb g nm qn) rv i H'' s'' → gs.Goes (model X.prog X.w) X.A.in1.in1 (fun n s₀ r s₁ => r = .ok .next ∧ GP X GA sB HB x y cenv fp a (gOb g nm qn) rv Q n s₀ s₁) (GY X GA sB HB x y cenv fp tn a (gOb g nm qn) rv Q W n0) n (.send .none) s'') →
      codeAny (model X.prog X.w) X.A (.builtin "all.loop" ⟨[.ref a], []⟩) R s := by
  have main : ∀ (n i : Nat) (s : Shared) (H : Hp) (gs : GenState), i + n = n0 → W i H → GI X GA sB HB x y cenv fp tn a (gOb g nm qn) rv i H s → s.gens[g]? = some gs →
      (∀ s'' H'', W i H'' → GI X GA sB HB x y cenv fp tn a (gOb g nm qn) rv i H'' s'' → gs.Goes (model X.prog X.w) X.A.in1.in1 (fun n s₀ r s₁ => r = .ok .next ∧ GP X GA sB HB x y cenv fp a (gOb g nm qn) rv Q n s₀ s₁) (GY X GA sB HB x y cenv fp tn a (gOb g nm qn) rv Q W n0) n (.send .none) s'') →
      (∀ v s₁ gs', gs'.bare = true → g < s₁.gens.size → GY X GA sB HB x y cenv fp tn a (gOb g nm qn) rv Q W n0 (n - 1) (s.setGen g .running) v s₁ (fun r' s'' => match n with
          | 0 => False
          | m + 1 => gs'.Goes (model X.prog X.w) X.A.in1.in1 (fun n s₀ r s₁ => r = .ok .next ∧ GP X GA sB HB x y cenv fp a (gOb g nm qn) rv Q n s₀ s₁) (GY X GA sB HB x y cenv fp tn a (gOb g nm qn) rv Q W n0) m r' s'') →
        v = .bool true → codeAny (model X.prog X.w) X.A (.builtin "all.loop" ⟨[.ref a], []⟩) R (s₁.setGen g gs')) →
      codeAny (model X.prog X.w) X.A (.builtin "all.loop" ⟨[.ref a], []⟩) R s := by
    intro n i s H gs hn hW hG hgs hgo next
    have hgl : g < s.gens.size := (Array.getElem?_eq_some_iff.mp hgs).1
    refine codeAny_builtin F.entry_all_loop ?_
    rw [Around.under_plainId F.plain_all_loop _]
    show wpAny _ X.A.in1 (pyNext (.ref a) >>= _) _ _ s
    have lim : s.heap.NoLimit := by
      obtain ⟨⟨σ2, I⟩, _⟩ := hG
      exact I.nolimit
    refine wpAny_bind (wpAny_gsz (n := g + 1) hgl (wpAny_pyNext_genexpQ (A := X.A.in1) (P := GP X GA sB HB x y cenv fp a (gOb g nm qn) rv Q) hr.hd lim hr.depth (isGen hG.1) hgs (hgo _ H hW (hG.gens rfl)) (fun v s₁ gs' hb hv => ?_) (fun s₁ hp h' hk => ?_)))
    · intro hsz
      have hsz1 : g < s₁.gens.size := by
        have q : (s₁.setGen g gs').gens.size = s₁.gens.size := setGen_size _ _ _
        have hsz' : g + 1 ≤ (s₁.setGen g gs').gens.size := hsz
        omega
      have nx := next v s₁ gs' hb hsz1 hv
      obtain ⟨i', H', _, G', h'⟩ := hv
      rcases h' with ⟨rfl, w', _⟩ | ⟨rfl, q'⟩
      · refine wpAny_bind (wpAny_holding (wpAny_truthy_bool ?_))
        refine wpAny_bind (wpAny_letGo ?_)
        simp only [if_true]
        exact wpAny_pure ⟨plainId_quiet F.plain_all_loop _, nx rfl⟩
      · refine wpAny_bind (wpAny_holding (wpAny_truthy_bool ?_))
        refine wpAny_bind (wpAny_letGo ?_)
        simp only [Bool.false_eq_true, if_false]
        refine wpAny_bind (wpAny_rule (wpAny_pure ?_))
        exact hR false H' _ q' (G'.1.gens hb)
    · intro _
      obtain ⟨H', I', q'⟩ := hp
      refine wpAny_bind (wpAny_rule (wpAny_pure ?_))
      exact hR true H' _ q' ((I'.gens (z := .finished) rfl).heap hk)
  intro n
  induction n with
  | zero =>
    intro i s H gs hn hW hG hgs hgo
    refine main 0 i s H gs hn hW hG hgs hgo fun v s₁ gs' hb hsz hv e => ?_
    obtain ⟨i', H', _, G', h'⟩ := hv
    rcases h' with ⟨_, w', k⟩ | ⟨e2, _⟩
    · exact (k s₁ H' w' G').elim
    · rw [e] at e2
      cases e2
  | succ n ih =>
    intro i s H gs hn hW hG hgs hgo
    refine main (n + 1) i s H gs hn hW hG hgs hgo fun v s₁ gs' hb hsz hv e => ?_
    obtain ⟨i', H', hi', G', h'⟩ := hv
    rcases h' with ⟨_, w', k⟩ | ⟨e2, _⟩
    · exact ih i' _ H' gs' hi' w' (G'.gens hb) (setGen_at hsz) fun s'' H'' hW'' hG'' => k s'' H'' hW'' hG''
    · rw [e] at e2
      cases e2
end
end AG
namespace AG
open PySem PySem.Spec PyProof.Rows L2 GenW
open LamX (TabB TabS Tabs ExtN CodeO codeO_ne inv_table among_app)
section
variable {X : Cx} {elt iter : Expr} {x y : Str} {px gpos pos : Pos} {scope : Scope} {te : TE} {ti : TI} {pins : List (Addr × Obj)} {σ : L2.St} {H : Hp} {s : Shared}
/-- the generator at a is made, in the state s5 -/
def Ready (X : Cx) (elt iter : Expr) (x y : Str) (px : Pos) (scope : Scope) (gpos : Pos) (pins : List (Addr × Obj)) (σ : L2.St) (Ts : List (Addr × Str)) (rv : V) (J : It) (H1 : Hp) (a : Addr) (s5 : Shared) : Prop :=
  ∃ (it : Addr) (fp : List Addr) (tn : Nat → Heap → Prop) (sB : Shared) (HB : Hp) (cl : List (Str × Addr)) (C : Addr) (code : Value) (g : Nat) (nm qn : Value),
    (ExtN H1 HB ∧ Tabs Ts HB) ∧ Turn X.prog X.w X.K (.Name x px) J fp it tn ∧ (∀ b ∈ fp, a ≠ b) ∧ Inv X pins σ HB sB ∧ (∀ b ∈ fp, FpOk X pins HB b) ∧ 
    GI X (gAr X.A elt iter x px scope gpos it (genEnv scope cl C code builtinsNs X.env)) sB HB x y (genEnv scope cl C code builtinsNs X.env) fp tn a (gOb g nm qn) rv 0 HB s5 ∧
    s5.gens[g]? = some (.fresh (.compStart (gExp elt iter x px scope gpos) 0 (.ref it) .none (genEnv scope cl C code builtinsNs X.env)))
theorem room_gAr {A : Around} {k : Nat} {it : Addr} {cenv : Env} (r : Room (k + 1) A) : Room k (gAr A elt iter x px scope gpos it cenv) :=
  ⟨r.hd, by have := r.dp; show A.depth + 0 + 1 + 3 * k + 5 < _; omega, by have := r.un; show A.units + 1 + 1 + 0 + 3 + 16 * k + 200 < _; omega⟩
theorem gen_any {Ts : List (Addr × Str)} {c P : Addr} {iy : Nat} {rv : V} {k : Nat} {Q' : Value → Shared → Prop} {R : It → Hp → Prop}
    (hr : Room k X.A) (TB : TabB X.base X.mg c P) (hmT : (P, X.env.qual ++ "<genexpr>") ∈ Ts) (hu : ∀ p ∈ Ts, p.1 = P → p.2 = X.env.qual ++ "<genexpr>") (hcode : X.env.code = .ref c) (S : GSc scope x y) (hN : X.N[iy]? = some y) (hk : X.env.kindOf y = some .cell) (hrv : σ[iy]? = some (some rv)) (hi : PI X (.Name x px) iter ti)
    (hs : ∀ v, genFold iter X.env v = pure v) (I : Inv X pins σ H s) (h : ti σ H fun J H1 => Tabs Ts H1 ∧ R J H1)
    (hQ : ∀ J H1 a s5, R J H1 → Ready X elt iter x y px scope gpos pins σ Ts rv J H1 a s5 → Q' (.ref a) s5) :
    wpAny (model X.prog X.w) X.A (eval (gExp elt iter x px scope gpos) X.env) Q' X.xe s := by
  obtain ⟨cy, hcy⟩ := I.ok.has y (.inl hk)
  have hfree : ∀ z ∈ scope.names, z.2 = .free → ∃ c, X.env.cells.lookup z.1 = some c := fun z hz e => by
    rw [S.only z hz e]
    exact ⟨cy, hcy⟩
  have hcl : cloFrom X.env.cells scope.names [] = [(y, cy)] := by
    rw [S.clo, hcy]
    rfl
  have one : ∀ {z c'}, ([(y, cy)] : List (Str × Addr)).lookup z = some c' → z = y ∧ c' = cy := fun {z c'} e => by
    rw [List.lookup_cons] at e
    split at e
    · rename_i hb
      exact ⟨eq_of_beq hb, (Option.some.inj e).symm⟩
    · cases e
  have oney : ([(y, cy)] : List (Str × Addr)).lookup y = some cy := by
    rw [List.lookup_cons, beq_self_eq_true]
  refine wpAny_GeneratorExp_make (cl := cloFrom X.env.cells scope.names []) S.co (closure_ok hfree) S.cell S.dot S.kind hr.depth ?_ hs
  refine thn (hi.run pins s σ H _ I h) fun xv s1 h1 => thn h1 fun itv s2 h2 => ?_
  obtain ⟨it, fp, tn, J, H2, rfl, I2, T, st2, f2, hT, hRJ⟩ := h2
  obtain ⟨ps, hP, ht, ha⟩ := hT _ hmT
  refine ⟨I2.nolimit, ?_⟩
  have hPs : s2.heap.get? P = some { cls := .none, data := .fields ps } := I2.hok P _ hP
  have hPlt : P < s2.heap.objs.size := Heap.lt_size hPs
  have cd : PySem.W.CodeHd s2.heap c P := TB.code.keeps fun b u e => I2.bk b u e
  have nfp : ∀ b ∈ fp, b ≠ P := fun b hb z => by
    have := (f2 b hb).1
    rw [z, hP] at this
    cases this
  have cont : ∀ (code : Value) (h3 : Heap) (tk : Nat) (H4 : Hp), Inv X pins σ H4 { s2 with heap := h3, gens := s2.gens, drawn := s2.drawn, toks := tk } → s2.heap.objs.size ≤ h3.objs.size → (∀ b ∈ fp, H4 b = none) → (∀ b ∈ fp, ∀ o, s2.heap.get? b = some o → h3.get? b = some o) → ExtN H2 H4 → Tabs Ts H4 →
      wpAny (model X.prog X.w) X.A (builtinsFor X.env.globals X.env.builtins) (fun bi s₄ =>
        ∀ h', h'.Ns s₄.heap.objs.size (fun y => if y = ".0" then some (.ref it) else none) → Heap.SameBut s₄.heap.objs.size (s₄.heap.push { cls := .type "frame", data := .dict #[] }) h' →
          Q' (.ref h'.objs.size) { s₄ with
            gens := s₄.gens.push (.fresh (.compStart (gExp elt iter x px scope gpos) 0 (.ref it) .none (genEnv scope (cloFrom X.env.cells scope.names []) s₄.heap.objs.size code bi X.env))),
            toks := s₄.toks + 1 + 1 + 1,
            heap := h'.push { cls := .type "generator", data := .fields #[.int s₄.gens.size 0, .str "<genexpr>" (s₄.toks + 1), .str (X.env.qual ++ "<genexpr>") (s₄.toks + 1 + 1)] } }) X.xe { s2 with heap := h3, toks := tk } := by
    intro code h3 tk H4 J4 hsz nf4 kp4 eN T4
    obtain ⟨bm, ob, e1, e2, e3, e4, e5, e6, e7, e8⟩ := TB.bm
    refine wpAny_builtinsFor (m := X.mg) (by rw [J4.ok.glob]; exact J4.mod.glob.keeps J4.bk) e1 e2 (J4.bk _ _ e5) e6 e7 e8 ?_
    intro h' hn' hs'
    have hsz' : h'.objs.size = h3.objs.size + 1 := by rw [hs'.1, Heap.size_push]
    have keep4 : ∀ b o, h3.get? b = some o → h'.get? b = some o := fun b o e => hs'.extBut b o (Nat.ne_of_lt (Heap.lt_size e)) (Heap.get?_push_of_some _ e)
    have keep5 : ∀ b o, h3.get? b = some o → (h'.push { cls := .type "generator", data := .fields #[.int s2.gens.size 0, .str "<genexpr>" (tk + 1), .str (X.env.qual ++ "<genexpr>") (tk + 1 + 1)] }).get? b = some o := fun b o e => Heap.get?_push_of_some _ (keep4 b o e)
    have fpHB : ∀ b ∈ fp, FpOk X pins H4 b := fun b hb => ⟨nf4 b hb, (f2 b hb).2⟩
    have fplt : ∀ b ∈ fp, b < s2.heap.objs.size := fun b hb => by
      obtain ⟨o, e, _⟩ := T.obj _ _ st2 b hb
      exact Heap.lt_size e
    have stkLt : ∀ b ∈ frs X.stack, b < h3.objs.size := fun b hb => by
      obtain ⟨_, o, e, _⟩ := J4.stack.mem hb
      exact Heap.lt_size e
    refine hQ J H2 h'.objs.size _ hRJ ⟨it, fp, tn, { s2 with heap := h3, gens := s2.gens, drawn := s2.drawn, toks := tk }, H4, cloFrom X.env.cells scope.names [], h3.objs.size, code, s2.gens.size, .str "<genexpr>" (tk + 1), .str (X.env.qual ++ "<genexpr>") (tk + 1 + 1), ⟨eN, T4⟩, T, fun b hb z => ?_, J4, fpHB, ⟨⟨none, ?_⟩, ?_, fun b hb => (fpHB b hb).1⟩, ?_⟩
    · have h1 := fplt b hb
      have h4 : h'.objs.size < s2.heap.objs.size := by
        rw [z]
        exact h1
      omega
    · refine ⟨⟨J4.ok.mod, S.kind, J4.ok.glob, rfl, Nat.le_refl _, fun a b d ea eb => ?_, fun a ha => ?_, (fun a d z => nomatch z), fun _ => hr.hd, ?_, .inr ⟨rfl, rfl⟩, fun b hb => ⟨?_, fun a d ea z => ?_⟩, J4.bs, Nat.le_trans J4.ok.bsz J4.sz, fun b o e hb => ?_, fun b hb z => ?_, J4.stack, J4.stkFree⟩, rfl, J4.bare.push rfl, Un.kept keep5, ⟨_, hn'.push _, fun i z v h1 h2 hv => ?_⟩, fun a d ea => ?_, J4.hok.fresh (Nat.le_refl _), fun a d ea => ?_, fun p hp => ?_, J4.hok.kept keep5, rfl⟩
      · have ea' : (cloFrom X.env.cells scope.names []).lookup a = some d := ea
        have eb' : (cloFrom X.env.cells scope.names []).lookup b = some d := eb
        rw [hcl] at ea' eb'
        rw [(one ea').1, (one eb').1]
      · show ∃ c, (cloFrom X.env.cells scope.names []).lookup a = some c
        rw [hcl]
        have ha' : scope.names.lookup a = some .cell ∨ scope.names.lookup a = some .free := ha
        rcases ha' with e | e
        · exact absurd rfl (S.cell _ (lookup_mem e))
        · have := S.only _ (lookup_mem e) rfl
          rw [show a = y from this]
          exact ⟨cy, oney⟩
      · show (gAr X.A elt iter x px scope gpos it _).frames = _
        have fr : X.A.in1.in1.frames = some X.stack := J4.ok.frames
        show pushEnvs (Code.envs (gLoop elt iter x px scope gpos it (genEnv scope (cloFrom X.env.cells scope.names []) h3.objs.size code builtinsNs X.env))) (pushEnvs (envsOf (([] : List Frame).map Frame.where_)) X.A.in1.in1.frames) = _
        rw [fr]
        rfl
      · show b ≠ h3.objs.size
        have h1 := fplt b hb
        exact Nat.ne_of_lt (Nat.lt_of_lt_of_le h1 hsz)
      · have ea' : (cloFrom X.env.cells scope.names []).lookup a = some d := ea
        rw [hcl] at ea'
        exact (f2 b hb).2.2.2.2.1 y cy hcy ((one ea').2.symm.trans z)
      · rcases (f2 b hb).2.2.2.1 with z | z
        · exact I2.ok.noex b o e z
        · exact absurd (Nat.lt_of_lt_of_le (Heap.lt_size e) (Nat.le_trans I2.ok.bsz z)) (Nat.lt_irrefl _)
      · rcases List.mem_cons.mp (J4.stkSub b z) with q | q
        · exact (f2 b hb).2.1 q
        · exact (f2 b hb).2.2.1 q
      · match i, h1, h2 with
        | 0, h1, h2 =>
          cases h1
          cases h2
          obtain ⟨m0, hn0, hl0⟩ := J4.loc
          obtain ⟨u, ru, lk⟩ := hl0 iy y rv hN hrv (.inr (.inl hk))
          refine ⟨u, ru, .inr ⟨.inr S.fr, cy, ?_, ?_⟩⟩
          · show (cloFrom X.env.cells scope.names []).lookup y = some cy
            rw [hcl]
            exact oney
          · rcases lk with ⟨q, _⟩ | ⟨_, c', hc', hcc⟩
            · rw [hk] at q
              cases q
            · rw [hcy] at hc'
              cases hc'
              exact hcc.keeps keep5
        | 1, h1, h2 => cases h2
        | i + 2, h1, h2 => cases h1
      · have ea' : (cloFrom X.env.cells scope.names []).lookup a = some d := ea
        rw [hcl] at ea'
        rw [(one ea').2]
        obtain ⟨v, z⟩ := J4.cell y cy hcy
        exact ⟨v, z.keeps keep5⟩
      · have ea' : (cloFrom X.env.cells scope.names []).lookup a = some d := ea
        rw [hcl] at ea'
        rw [(one ea').2]
        exact J4.freeC y cy hcy
      · rcases List.mem_cons.mp (show p ∈ [(h'.objs.size, gOb s2.gens.size _ _)] from hp) with rfl | hp
        · refine ⟨Heap.get?_push_size _ rfl, J4.hok.fresh (by show h3.objs.size ≤ h'.objs.size; omega), ?_, fun z => ?_, fun v z => nomatch z⟩
          · show h'.objs.size ≠ h3.objs.size
            omega
          · have h1 := stkLt _ z
            have h2 : (h'.objs.size : Nat) < h3.objs.size := h1
            omega
        · cases hp
    · exact T.keep _ _ _ st2 fun b hb o e => keep5 b o (kp4 b hb o e)
    · exact Array.getElem?_push_size ..
  cases hf : codeAmong gpos ps.toList with
  | none =>
    refine wpAny_genexprCodeX hcode (cd.code hPs ht) (cd.tab hPs) hf fun c' h' tk hx hge hlt hco' hrec htab' _ => ?_
    obtain ⟨o1, vs, f1, tf, fl, tg, inF, tx, tt, op, _, _, _, _, _, _, _, _, _, htr, _⟩ := hco'
    obtain ⟨c2, oc, vs2, t2, e2, hoc, hd, hv⟩ := hrec
    cases e2
    have nC : H2 c' = none := I2.hok.fresh hge
    have I3 := inv_table (t' := tk) (more := #[rawInt gpos.line, rawInt gpos.col, .ref c']) (h' := h') I2 hP (fun b o hb e => hx b o hb e) htab'.2 hge ⟨oc, vs2, t2, hoc, hd, hv⟩
    have hE : ExtN H2 (upd (upd H2 P (.tbl (ps ++ #[rawInt gpos.line, rawInt gpos.col, .ref c']))) c' (CodeO c' (X.env.qual ++ "<genexpr>"))) := fun b o e n => by
      rw [upd_ne (ne_of_none e nC), upd_ne (fun z => n ps (Option.some.inj (e.symm.trans (by rw [z]; exact hP))))]
      exact e
    have eL : (ps ++ #[rawInt gpos.line, rawInt gpos.col, .ref c']).toList = ps.toList ++ [rawInt gpos.line, rawInt gpos.col, .ref c'] := by simp
    have fpc : ∀ b ∈ fp, b ≠ c' := fun b hb z => by
      obtain ⟨o, e, _⟩ := T.obj _ _ st2 b hb
      have h1 := Heap.lt_size e
      rw [z] at h1
      exact absurd (Nat.lt_of_lt_of_le h1 hge) (Nat.lt_irrefl _)
    refine cont _ h' tk _ I3 (Nat.le_trans hge (Nat.le_of_lt hlt)) (fun b hb => by rw [upd_ne (fpc b hb), upd_ne (nfp b hb)]; exact (f2 b hb).1) (fun b hb o e => hx b o (nfp b hb) e) hE fun p hp => ?_
    by_cases hb : p.1 = P
    · rw [hu p hp hb, hb]
      refine ⟨_, by rw [upd_ne (ne_of_none hP nC), upd_same], by rw [eL]; exact PySem.TriplesOk_snoc _ _ _ _ ht, fun p' cv hcv => ?_⟩
      rw [eL] at hcv
      rcases among_app _ ht hcv with z | z
      · obtain ⟨c0, e1, e2⟩ := ha p' cv z
        exact ⟨c0, e1, hE _ _ e2 codeO_ne⟩
      · exact ⟨c', z, upd_same⟩
    · obtain ⟨ps', a1, a2, a3⟩ := hT p hp
      refine ⟨ps', by rw [upd_ne (ne_of_none a1 nC), upd_ne hb]; exact a1, a2, fun p' cv hcv => ?_⟩
      obtain ⟨c0, e1, e2⟩ := a3 p' cv hcv
      exact ⟨c0, e1, hE _ _ e2 codeO_ne⟩
  | some cv =>
    refine wpAny_genexprCode_hit hcode (cd.code hPs ht) hf ?_
    exact cont cv s2.heap s2.toks H2 (I2.kept (t' := s2.toks) fun _ _ e => e) (Nat.le_refl _) (fun b hb => (f2 b hb).1) (fun b hb o e => e) (ExtN.refl _) hT
/-- all(test for x in e): the name y of the def's is read in it; behind it the def's table may have grown -/
def tAllG (Ts : List (Addr × Str)) (iy : Nat) (ti : TI) (te : TE) : TE := fun σ H Q => ∃ rv, σ[iy]? = some (some rv) ∧ ti σ H fun J H1 => Tabs Ts H1 ∧ ∃ (W : Nat → Hp → Prop) (n0 : Nat), (∀ H2, ExtN H1 H2 → Tabs Ts H2 → W 0 H2) ∧ Walk J Q W te rv n0
theorem pe_allG {Ts : List (Addr × Str)} {c P : Addr} {p : Pos} {iy : Nat} {k : Nat} (hr : Room (k + 1) X.A) (hg : Gl X "all") (hm : X.mg "all" = none) (hb : bootBuiltins "all" = some (.builtin "all")) (TB : TabB X.base X.mg c P) (hmT : (P, X.env.qual ++ "<genexpr>") ∈ Ts) (hu : ∀ p ∈ Ts, p.1 = P → p.2 = X.env.qual ++ "<genexpr>") (hcode : X.env.code = .ref c) (S : GSc scope x y) (hN : X.N[iy]? = some y) (hk : X.env.kindOf y = some .cell)
    (hi : PI X (.Name x px) iter ti) (hel : ∀ (GA : Around), Room k GA → ∀ (s : Shared) (H : Hp) (cl : List (Str × Addr)) (C : Addr) (code : Value) (fp : List Addr), PE (gx X GA s H [y, x] (genEnv scope cl C code builtinsNs X.env) fp) elt te)
    (hs : ∀ v, genFold iter X.env v = pure v)
    (he : starEach [gExp elt iter x px scope gpos] X.env = (false, eval (gExp elt iter x px scope gpos) X.env) :: starEach [] X.env := by rfl) :
    PE X (.Call (.Name "all" p) [gExp elt iter x px scope gpos] [] pos) (tAllG Ts iy ti te) := by
  refine ⟨fun pins s σ H Q I h => ?_⟩
  obtain ⟨rv, hrv, h⟩ := h
  refine wpAny_Call_Name_kw (ld_blt I hg hm hb ?_)
  refine PyProof.Rows.callWith_builtin1 ?_ he (by rfl)
  rw [he]
  show wpAny _ _ (spliced ((false, eval (gExp elt iter x px scope gpos) X.env) :: backTo pos (starEach [] X.env))) _ _ s
  refine Calls.spliced_cons (gen_any hr TB hmT hu hcode S hN hk hrv hi hs I h fun J H1 a s5 hq hG => ?_)
  obtain ⟨it, fp, tn, sB, HB, cl, C, code, g, nm, qn, tabd, T, hap, JB, fpB, G0, hgs⟩ := hG
  obtain ⟨W, n0, w0, walk⟩ := hq
  refine Calls.spliced_nil ?_
  refine call_function_tree F.kind_all F.plain_all F.entry_all (F.args_all1 _) ?_
  unfold Builtin.«all»
  refine wpAny_bind (m := oneArg "all" _) (wpAny_pure ?_)
  refine wpAny_bind (wpAny_pyIter_gen (isGen G0.1) ?_)
  refine wpAny_pure ⟨plainId_quiet F.plain_all_loop _, ?_⟩
  refine all_loop (W := W) (Q := Q) (n0 := n0) hr (fun b H' s' hq I' => ?_) n0 0 s5 HB _ (Nat.zero_add _) (w0 HB tabd.1 tabd.2) G0 hgs (fun s'' H'' hW'' hG'' => ⟨rfl, seg_start rfl S T hap (hel _ (room_gAr hr) sB HB cl C code fp) walk _ _ H'' hW'' hG''⟩)
  obtain ⟨σ2, I'⟩ := I'
  exact ⟨.bl b, H', JB.call' (ch := fp) I'.os I'.base I'.hok I'.bare fun b hb => ⟨(fpB b hb).2.2.2.1, (fpB b hb).2.1, (fpB b hb).2.2.2.2.1, (fpB b hb).2.2.2.2.2⟩, rfl, hq⟩
end
end AG
namespace Say
open PySem PySem.Spec PyProof.Rows L2
def saysAll (rs : List Rule) (ss : List Exc) : Bool := ss.all fun e => decide (sayW rs e.1 = some e.2)
theorem RulesAtL.extN {H H' : Hp} {R : Addr} {rs : List Rule} (h : RulesAtL H R rs) (e : LamX.ExtN H H') : RulesAtL H' R rs := by
  obtain ⟨ts, h1, h2⟩ := h
  exact ⟨ts, e _ _ h1 (by intro _ z; cases z), paired_mono (fun t ρ q => e _ _ q (by intro _ z; cases z)) h2⟩
theorem SampsAt.extN {H H' : Hp} {S : Addr} {ss : List Exc} (h : SampsAt H S ss) (e : LamX.ExtN H H') : SampsAt H' S ss := by
  obtain ⟨ts, h1, h2⟩ := h
  exact ⟨ts, e _ _ h1 (by intro _ z; cases z), paired_mono (fun t ρ q => e _ _ q (by intro _ z; cases z)) h2⟩
abbrev sAre : Stmt := topS 58
def qAre : Str := (PySem.W.envX "are_said" (defScope sAre) 0 0 (.ref 0) []).qual ++ "<genexpr>"
theorem scAre : FnScope ["rules", "samples"] ["rules", "samples"] (defScope sAre) := ⟨rfl, rfl, rfl, by decide +kernel, rfl, by decide +kernel, by decide +kernel⟩
def spAre (Ts : List (Addr × Str)) : Sp := fun vs H Q _ => ∃ (R S : Addr) (rs : List Rule) (ss : List Exc), vs = [.ref R, .ref S] ∧ RulesAtL H R rs ∧ (∀ ρ ∈ rs, RlOk ρ) ∧ SampsAt H S ss ∧ (∀ e ∈ ss, e.1.length ≤ 80) ∧ LamX.Tabs Ts H ∧
  ∀ (H' : Hp), LamX.ExtN H H' → LamX.Tabs Ts H' → Q (.bl (saysAll rs ss)) H'
section
variable {P : Program} {w : World} {K : PySem.W.Frag} {mg : Str → Option Value} {base : Heap}
theorem ok_are {f cT PT : Addr} {oc : Value} {od an : Option Addr} {osl : Array (Option Value)} {kV doc pm ct : Value} {Ts : List (Addr × Str)}
    (lk : K.lookup f = some ⟨oc, od, .func (PySem.W.fnOf "are_said" "are_said" (defArgs sAre) (defBody sAre) (defScope sAre) .none kV doc pm an (.ref cT) ct), osl⟩) (hcd : PySem.W.codeIn K (.ref cT) "are_said" = true)
    (TB : LamX.TabB base mg cT PT) (hmT : (PT, qAre) ∈ Ts) (hu : ∀ p ∈ Ts, p.1 = PT → p.2 = qAre) (B : Bn mg) (DI : Df P w K mg base "is_said" ["rules", "sample"] 7 spIsSaidL) :
    FnOk P w K mg base CX0 9 f (PySem.W.fnOf "are_said" "are_said" (defArgs sAre) (defBody sAre) (defScope sAre) .none kV doc pm an (.ref cT) ct) ["rules", "samples"] (spAre Ts) := by
  obtain ⟨fI, fdI, GI, kI, bI, mI⟩ := DI
  refine fn_of lk hcd scAre (fun vs H Q E h => ?_) (fun A outer s H vs Q E hr h => ?_)
  · obtain ⟨R, S, rs, ss, rfl, _⟩ := h
    rfl
  · obtain ⟨R, S, rs, ss, rfl, hR, ho, hS, hs, hT, q⟩ := h
    suffices hh : ∃ tt, PSs (cxOf CX0 P w K mg base ["rules", "samples"] "are_said" (defScope sAre) f (.ref cT) A outer s H E).nox (defBody sAre) tt ∧ tt { nx := fun _ H' => Q .non H', rt := Q } (start ["rules", "samples"] [.ref R, .ref S]) H by
      obtain ⟨tt, h1, h2⟩ := hh
      exact ⟨tt, h1.nox, h2⟩
    have hr8 : Room 8 _ := hr
    refine ⟨_, pss_one (ps_ret (AG.pe_allG (k := 7) (Ts := Ts) (iy := 0) (x := "sample") (y := "rules") (te := tCall spIsSaidL [] E0 (tCons (tVar 0) (tCons (tVar 1) tNil))) hr8 (by rfl) B.all (by decide +kernel) TB hmT hu rfl
      (by exact ⟨rfl, rfl, by decide +kernel, rfl, rfl, rfl, by decide +kernel, fun _ => rfl, by decide +kernel⟩) rfl rfl (pi_list (pv 1)) (fun GA hrG s H cl C code fp => pe_call GI hrG (by rfl) mI kI bI .nil pass0 (pa_cons (pv 0) (pa_cons (pv 1) pa_nil))) (fun _ => rfl))), ?_⟩
    obtain ⟨ts, hSl, hSp⟩ := id hS
    refine ⟨_, rfl, _, rfl, S, rfl, ⟨_, .inl (.inl hSl)⟩, hT, ?_⟩
    refine ⟨fun i H2 => i ≤ ss.length ∧ LamX.ExtN H H2 ∧ LamX.Tabs Ts H2 ∧ ∀ j e, j < i → ss[j]? = some e → sayW rs e.1 = some e.2, ss.length, fun H2 e2 T2 => ⟨Nat.zero_le _, e2, T2, fun j e hj => absurd hj (Nat.not_lt_zero j)⟩, fun i H2 ⟨hi, e2, T2, hall⟩ => ?_⟩
    have hS2 : SqL K H2 S (ts.map V.ref) := .inl (.inl (e2 _ _ hSl (by intro _ z; cases z)))
    by_cases hlt : i < ss.length
    · have hti : i < ts.length := by rw [paired_len hSp]; exact hlt
      refine .inr ⟨hlt, ⟨_, .ref ts[i], hS2, by rw [List.getElem?_map, List.getElem?_eq_getElem hti]; rfl⟩, fun v H3 ⟨e3, y⟩ => ?_⟩
      subst e3
      have g2 := y _ hS2
      rw [List.getElem?_map] at g2
      obtain ⟨a, ha, ea⟩ := Option.map_eq_some_iff.mp g2
      subst ea
      obtain ⟨e, he, hat⟩ := paired_at hSp ha
      refine ⟨_, rfl, _, rfl, R, a, rs, e, rfl, hR.extN e2, ho, e2 _ _ hat (by intro _ z; cases z), hs e (List.mem_of_getElem? he), fun H4 s4 => ?_⟩
      by_cases c : sayW rs e.1 = some e.2
      · refine .inl ⟨by rw [decide_eq_true c], hlt, e2.trans (.of s4), T2.ext s4, fun j e' hj hj' => ?_⟩
        by_cases ej : j = i
        · subst ej
          rw [he] at hj'
          cases hj'
          exact c
        · exact hall j e' (by omega) hj'
      · refine .inr ⟨by rw [decide_eq_false c], ?_⟩
        have := q H4 (e2.trans (.of s4)) (T2.ext s4)
        have ea : saysAll rs ss = false := by
          refine Bool.eq_false_iff.mpr fun z => c ?_
          exact of_decide_eq_true (List.all_eq_true.mp z e (List.mem_of_getElem? he))
        rw [ea] at this
        exact this
    · refine .inl ⟨⟨_, hS2, by rw [List.length_map, paired_len hSp]; omega⟩, ?_⟩
      have := q H2 e2 T2
      have ea : saysAll rs ss = true := List.all_eq_true.mpr fun e he => by
        obtain ⟨j, hj⟩ := List.mem_iff_getElem?.mp he
        have hjl := (List.getElem?_eq_some_iff.mp hj).1
        exact decide_eq_true (hall j e (by omega) hj)
      rw [ea] at this
      exact this
end
end Say
namespace Say
open PySem PySem.Spec PyProof.Rows L2
/-- the numbers, below n, of samples that rules don't say so -/
def blamM (rs : List Rule) (ss : List Exc) (n : Nat) : List Nat := (List.range n).filter fun i => match ss[i]? with
  | some e => !decide (sayW rs e.1 = some e.2)
  | none => false
theorem blam_next {rs : List Rule} {ss : List Exc} {n : Nat} {e : Exc} (h : ss[n]? = some e) : blamM rs ss (n + 1) = blamM rs ss n ++ (if sayW rs e.1 = some e.2 then [] else [n]) := by
  unfold blamM
  rw [List.range_succ, List.filter_append]
  congr 1
  by_cases c : sayW rs e.1 = some e.2
  · rw [if_pos c]
    refine List.filter_cons_of_neg ?_
    simp [h, c]
  · rw [if_neg c]
    refine List.filter_cons_of_pos ?_
    simp [h, c]
theorem blam_len (rs : List Rule) (ss : List Exc) (n : Nat) : (blamM rs ss n).length ≤ n := by
  unfold blamM
  have := List.length_filter_le (fun i => match ss[i]? with | some e => !decide (sayW rs e.1 = some e.2) | none => false) (List.range n)
  rwa [List.length_range] at this
def natsV (ks : List Nat) : List V := ks.map fun k => V.int (k : Nat)
section
variable {P : Program} {w : World} {K : PySem.W.Frag} {mg : Str → Option Value} {base : Heap}
abbrev sBl : Stmt := topS 55
abbrev nBl : List Str := ["letters", "rules", "samples", "number", "sample"]
theorem scBl : FnScope nBl ["letters", "rules", "samples"] (defScope sBl) := ⟨rfl, rfl, rfl, by decide +kernel, rfl, by decide +kernel, by decide +kernel⟩
def spBl : Sp := fun vs H Q _ => ∃ (L : List Nat) (R S : Addr) (rs : List Rule) (ss : List Exc), vs = [.str (T L), .ref R, .ref S] ∧ LetOk L ∧ RulesAt H R rs ∧ (∀ ρ ∈ rs, RuleOk L ρ) ∧ rs.length ≤ 12 ∧ SampsAt H S ss ∧ (∀ e ∈ ss, ExcOk L e) ∧ ss.length ≤ 12 ∧
  ∀ (D : Addr) (H' : Hp), Same H H' → H D = none → H' D = some (.lst (natsV (blamM rs ss ss.length))) → Q (.ref D) H'
theorem ok_bl {f : Addr} {fd : FuncData} (F : Fun K "blamed" "blamed" sBl f fd) (B : Bn mg) (DC : Df P w K mg base "check_all" ["letters", "rules", "samples"] 5 spChA) (DI : Df P w K mg base "is_said" ["rules", "sample"] 7 spIsSaid) :
    FnOk P w K mg base CX0 8 f fd ["letters", "rules", "samples"] spBl := by
  obtain ⟨fC, fdC, GC, kC, bC, mC⟩ := DC
  obtain ⟨fI, fdI, GI, kI, bI, mI⟩ := DI
  refine F.ok scBl (fun vs H Q E h => ?_) (fun cdv A outer s H vs Q E hr h => ?_)
  · obtain ⟨L, R, S, rs, ss, rfl, _⟩ := h
    rfl
  · obtain ⟨L, R, S, rs, ss, rfl, hL, hR, ho, h12, hS, hs, s12, q⟩ := h
    refine ⟨_, pss_cons (ps_expr (pe_call GC (hr.mono (by decide)) (by rfl) mC kC bC .nil pass0 (pa_cons (pv 0) (pa_cons (pv 1) (pa_cons (pv 2) pa_nil)))))
      (pss_one (ps_ret (pe_lc (own := [("number", 3), ("sample", 4)]) (g := gTup K 2 (gCons (gName 3) (gCons (gName 4) gNil))) (te := tVar 3) (tt := tNot (tB (tCall spIsSaid [] E0 (tCons (tVar 1) (tCons (tVar 4) tNil))))) rfl scBl.nd (pi_enum (by rfl) B.enu (pa_cons (pv 2) pa_nil))
        (blkOk_by (N := nBl) (sc := defScope sBl) (by decide +kernel)) (fun _ _ _ _ _ => pg_tup (by rfl) (pgs_cons (pg_name (i := 3) scBl.nd rfl (.inl rfl)) (pgs_cons (pg_name (i := 4) scBl.nd rfl (.inl rfl)) pgs_nil)))
        (fun _ _ _ _ _ => pts_one (pt_not (pt_val (pe_call GI hr (by rfl) mI kI bI .nil pass0 (pa_cons (pv 1) (pa_cons (pv 4) pa_nil)))))) (fun _ _ _ _ _ => pv 3)))), ?_⟩
    refine ⟨_, rfl, _, rfl, _, rfl, L, R, S, rs, ss, rfl, hL, hR, ho, h12, hS, hs, s12, fun H1 s1 => ?_⟩
    have hR1 := hR.kt (.of s1)
    obtain ⟨ts, hSl, hSp⟩ := hS.same s1
    have hrl : ∀ ρ ∈ rs, RlOk ρ := fun ρ hρ => (ho ρ hρ).rl hL
    refine ⟨_, rfl, S, _, rfl, .inl (.inl hSl), fun D hD => ?_⟩
    refine lc_it (walk_enum (xs := ts.map V.ref)) (fun i H2 => H2 D = some (.lst (natsV (blamM rs ss i))) ∧ Same H1 H2) ?_ (fun i H2 _ h => .inl (.inl (h.2 _ _ hSl))) ?_ ?_
    · exact ⟨upd_same, same_new hD _⟩
    · rintro i x H2 H3 hi ⟨e1, e2⟩ ⟨t, x1, x2, rfl, ht, rfl, g1, g2⟩
      cases g1
      have g2 : (ts.map V.ref)[i]? = some x2 := g2
      rw [List.getElem?_map] at g2
      obtain ⟨a, ha, e⟩ := Option.map_eq_some_iff.mp g2
      subst e
      obtain ⟨e, he, hat⟩ := paired_at hSp ha
      have sm := same_new ht (.tup [.int (i : Nat), .ref a])
      have hi2 : i < ss.length := (List.getElem?_eq_some_iff.mp he).1
      have w8 := (hs e (List.mem_of_getElem? he)).w8
      have sR := e2.trans sm
      have et := blam_next (rs := rs) he
      refine ⟨t, _, rfl, .inl (.inl upd_same), rfl, _, _, rfl, _, _, rfl, rfl, ?_⟩
      refine ⟨rfl, _, rfl, _, rfl, R, a, rs, e, rfl, hR1.kt (.of sR), hrl, sR _ _ hat, by omega, fun H4 s4 => ?_⟩
      have eD := s4 _ _ (sm _ _ e1)
      refine ⟨_, rfl, ite2 (fun c => ?_) (fun c => ?_)⟩
      · have c : ¬ sayW rs e.1 = some e.2 := by simpa using c
        rw [if_neg c] at et
        refine ⟨_, rfl, _, eD, ?_, ?_, ?_⟩
        · unfold natsV
          rw [List.length_map]
          have := blam_len rs ss i
          exact small1000 (by omega)
        · rw [upd_same, et]
          unfold natsV
          rw [List.map_append]
          rfl
        · exact fun b u q => by
            rw [upd_ne (ne_of_none q hD)]
            exact s4 _ _ (sR b u q)
      · have c : sayW rs e.1 = some e.2 := by simpa using c
        rw [if_pos c, List.append_nil] at et
        exact ⟨by rw [et]; exact eD, sR.trans s4⟩
    · rintro H2 ⟨e1, e2⟩
      rw [List.length_map, paired_len hSp] at e1
      exact q D H2 (s1.trans e2) (s1.free hD) e1
end
end Say
namespace PySem
namespace CB
open PySem.Spec PyProof.Rows
/-! ### what the tables say of combinations -/
abbrev cN : String := "itertools.combinations"
theorem mro_c : mroOf (.type "itertools.combinations") = pure [.type "itertools.combinations", .type "object"] := by rw [mroOf_type]; kernel_rfl
theorem look_new : typeLookup (.type "itertools.combinations") "__new__" = pure (some (.builtin "itertools.combinations.__new__")) := by rw [typeLookup_type, builtinLookup_eq_fast]; kernel_rfl
theorem slot_init : Slot "itertools.combinations" "__init__" "object.__init__" :=
  .of (owner := "object") (n := "__init__") (by rw [typeLookup_type, builtinLookup_eq_fast]; kernel_rfl) (by decide +kernel) (by decide +kernel) (by decide +kernel)
    (by first | exact .inl (by decide +kernel) | exact .inr (by decide +kernel)) (by rw [isSubtype_type]; kernel_rfl)
theorem called : TypeCalled "itertools.combinations" "itertools.combinations.__new__" "object.__init__" :=
  ⟨by decide +kernel, by decide +kernel, ⟨_, _, mro_c⟩, madeBy_type mro_c look_new (by decide +kernel), by decide +kernel, by rw [isSubtype_type]; kernel_rfl, slot_init⟩
theorem typeCall2 (a b : Value) : checkTypeCall "itertools.combinations" ⟨[a, b], []⟩ = pure () := by kernel_rfl
theorem newCall2 (a b : Value) : checkBuiltinCall "itertools.combinations.__new__" ⟨[.type "itertools.combinations", a, b], []⟩ = pure () := by kernel_rfl
theorem entry_new : entryFor table "itertools.combinations.__new__" = some Builtin.«itertools.combinations.__new__» := entryFor_of_tree (by kernel_rfl)
theorem entry_next : entryFor table "itertools.combinations.__next__" = some Builtin.«itertools.combinations.__next__» := entryFor_of_tree (by kernel_rfl)
theorem slot_next : Slot "itertools.combinations" "__next__" "itertools.combinations.__next__" :=
  .of (owner := "itertools.combinations") (n := "__next__") (by rw [typeLookup_type, builtinLookup_eq_fast]; kernel_rfl) (by decide +kernel) (by decide +kernel) (by decide +kernel)
    (by first | exact .inl (by decide +kernel) | exact .inr (by decide +kernel)) (by rw [isSubtype_type]; kernel_rfl)
theorem slot_iter : Slot "itertools.combinations" "__iter__" "itertools.combinations.__iter__" :=
  .of (owner := "itertools.combinations") (n := "__iter__") (by rw [typeLookup_type, builtinLookup_eq_fast]; kernel_rfl) (by decide +kernel) (by decide +kernel) (by decide +kernel)
    (by first | exact .inl (by decide +kernel) | exact .inr (by decide +kernel)) (by rw [isSubtype_type]; kernel_rfl)
theorem entry_iter : entryFor table "itertools.combinations.__iter__" = some Builtin.«dict_keyiterator.__iter__» :=
  entryFor_alias (id' := "dict_keyiterator.__iter__") (by kernel_rfl) (by first | rfl | decide +kernel | (unfold String.splitOn; simp +decide [String.splitOnAux])) (by decide +kernel) (by kernel_rfl)
theorem sub_c : isSubtype (.type "itertools.combinations") (.type "itertools.combinations") = pure true := by rw [isSubtype_type]; kernel_rfl
end CB
end PySem
namespace PySem
namespace CB
open PySem.Spec PyProof.Rows
theorem owner_c : Manifest.owners.lookup (String.ofList ['s', 'n', 'o', 'i', 't', 'a', 'n', 'i', 'b', 'm', 'o', 'c', '.', 's', 'l', 'o', 'o', 't', 'r', 'e', 't', 'i'].reverse) = some Manifest.sig_itertools_combinations := by kernel_rfl
theorem args_next_1 (a : Value) : argsOk "itertools.combinations.__next__" ⟨[a], []⟩ := by
  unfold argsOk; rw [signature?_of (id := "itertools.combinations.__next__") (n := ['_', '_', 't', 'x', 'e', 'n', '_', '_']) (o := ['s', 'n', 'o', 'i', 't', 'a', 'n', 'i', 'b', 'm', 'o', 'c', '.', 's', 'l', 'o', 'o', 't', 'r', 'e', 't', 'i']) (by kernel_rfl) owner_c]; kernel_rfl
theorem args_iter_1 (a : Value) : argsOk "itertools.combinations.__iter__" ⟨[a], []⟩ := by
  unfold argsOk; rw [signature?_of (id := "itertools.combinations.__iter__") (n := ['_', '_', 'r', 'e', 't', 'i', '_', '_']) (o := ['s', 'n', 'o', 'i', 't', 'a', 'n', 'i', 'b', 'm', 'o', 'c', '.', 's', 'l', 'o', 'o', 't', 'r', 'e', 't', 'i']) (by kernel_rfl) owner_c]; kernel_rfl
/-- the record of one that walks: the pool at P, the state, what was handed out last, the numbers -/
abbrev IsComb (h : Heap) (c P : Addr) (st : Int) (last : Value) (idx : List Nat) : Prop :=
  h.get? c = some { cls := .type "itertools.combinations", dict := none, data := .fields (([.ref P, rawInt st, last] ++ idx.map fun (i : Nat) => rawInt i).toArray), slots := #[] }
theorem meets_new (rg : Addr) (m : Nat) (t0 t1 t2 : Tok) (r : Nat) (tr : Tok) :
    Meets (Builtin.«itertools.combinations.__new__» ⟨[.type "itertools.combinations", .ref rg, .int (r : Nat) tr], []⟩) (fun A R s => A.handled = none ∧ IsRange s.heap rg 0 (m : Nat) 1 t0 t1 t2 ∧ m ≤ 1000 ∧ r ≤ 1000 ∧
      ∀ (h' : Heap) (tk : Nat) (acc : Array Value), (∀ b o, s.heap.get? b = some o → h'.get? b = some o) → ItemsOf (fun i v => ∃ t, v = .int (0 + i * 1) t) acc m →
        R (.ok (.ret (.ref (h'.objs.size + 1)))) { s with heap := (h'.push { cls := .type "tuple", data := .seq acc }).push { cls := .type "itertools.combinations", data := .fields (([.ref h'.objs.size, rawInt (if r > m then 2 else 0), .none] ++ (List.range r).map fun (i : Nat) => rawInt i).toArray) }, toks := tk }) :=
  .of_wp fun prog w A R s h => by
    obtain ⟨hh, hr, hm, hr1, h⟩ := h
    have hsub : isSubtype (.type "itertools.combinations") (.type ("itertools." ++ "combinations")) = pure true := by rw [show ("itertools." ++ "combinations" : String) = "itertools.combinations" from by decide +kernel]; exact sub_c
    have hh1 : A.in1.handled = none := hh
    have hsm : Builtin.Range.small 0 (m : Nat) 1 = true := small_one (by omega) (by omega) (by omega) (by omega)
    have hsz : Builtin.Range.rangeSize 0 (m : Nat) 1 = m := by rw [rangeSize_one]; split <;> omega
    obtain ⟨hp, g, d, tk, os⟩ := s
    wp_walk using L2.collect_range (A := A.in1) hh1 hr hsm hsz (by omega)
    rw [if_neg (by simp; omega)]
    wp_walk using L2.collect_range (A := A.in1) hh1 hr hsm hsz (by omega)
    intro h' tk' acc hk hacc
    rw [if_neg (by omega)]
    have tm : Builtin.Itertools.itTooMany (r : Nat) = false := by
      unfold Builtin.Itertools.itTooMany
      exact decide_eq_false (by omega)
    wp_walk
    have es : acc.toList.toArray = acc := by simp
    rw [es, if_neg (by rw [hacc.1, sizeLine_eq]; omega)]
    have el : acc.toList.length = m := by rw [Array.length_toList, hacc.1]
    rw [el, show ((r : Nat) : Int).toNat = r from Int.toNat_natCast r]
    have td : typeHasDict (.type "itertools.combinations") = false := by kernel_rfl
    wp_walk
    rw [if_neg (by simp only [List.cons_append, List.nil_append, List.size_toArray, List.length_cons, List.length_map, List.length_range, sizeLine_eq]; omega)]
    wp_walk
    refine ⟨_, rfl, ?_⟩
    have hz : (h'.push { cls := Value.type "tuple", data := Data.seq acc }).objs.size = h'.objs.size + 1 := Heap.size_push ..
    have q := h h' tk' acc hk hacc
    rw [← hz] at q
    exact q
theorem args_init_3 (a b c : Value) : argsOk "object.__init__" ⟨[a, b, c], []⟩ := F.args_object_init_3 a b c
theorem call_comb {prog : Program} {w : World} {A : Around} {E : Value → Shared → Prop} {s : Shared} {rg : Addr} {m r : Nat} {t0 t1 t2 tr : Tok} {Q : Value → Shared → Prop} (hh : A.handled = none) (hr : IsRange s.heap rg 0 (m : Nat) 1 t0 t1 t2) (hm : m ≤ 1000) (hrm : r ≤ m)
    (h : ∀ (h0 h' : Heap) (tk : Nat) (acc : Array Value), (∀ b o, s.heap.get? b = some o → h0.get? b = some o) → (∀ b o, h0.get? b = some o → h'.get? b = some o) → ItemsOf (fun i v => ∃ t, v = .int (0 + i * 1) t) acc m →
      h'.get? h0.objs.size = some { cls := .type "tuple", data := .seq acc } → IsComb h' (h0.objs.size + 1) h0.objs.size 0 .none (List.range r) → Q (.ref (h0.objs.size + 1)) { s with heap := h', toks := tk }) :
    wpAny (model prog w) A (call (.type "itertools.combinations") [.ref rg, .int (r : Nat) tr]) Q E s := by
  refine callType_new called (by decide) (typeCall2 _ _) (newCall2 _ _) (fun obj => args_init_3 obj _ _) entry_new (meets_new rg m t0 t1 t2 r tr) ⟨hh, hr, hm, Nat.le_trans hrm hm, fun h' tk acc hk hacc => ?_⟩
  rw [if_neg (by omega)]
  have hz : (h'.push { cls := Value.type "tuple", data := Data.seq acc }).objs.size = h'.objs.size + 1 := Heap.size_push ..
  have g2 : ((h'.push { cls := Value.type "tuple", data := Data.seq acc }).push { cls := .type "itertools.combinations", data := .fields (([.ref h'.objs.size, rawInt 0, .none] ++ (List.range r).map fun (i : Nat) => rawInt i).toArray) }).get? (h'.objs.size + 1) = some { cls := .type "itertools.combinations", data := .fields (([.ref h'.objs.size, rawInt 0, .none] ++ (List.range r).map fun (i : Nat) => rawInt i).toArray) } := by rw [← hz]; exact Heap.get?_push_size _ rfl
  have g1 : ((h'.push { cls := Value.type "tuple", data := Data.seq acc }).push { cls := .type "itertools.combinations", data := .fields (([.ref h'.objs.size, rawInt 0, .none] ++ (List.range r).map fun (i : Nat) => rawInt i).toArray) }).get? h'.objs.size = some { cls := .type "tuple", data := .seq acc } := Heap.get?_push_of_some _ (Heap.get?_push_size _ rfl)
  show _ ∧ _
  exact ⟨⟨_, g2, rfl⟩, h h' _ tk acc hk (fun b o e => Heap.get?_push_of_some _ (Heap.get?_push_of_some _ e)) hacc g1 g2⟩
end CB
end PySem
namespace CBM
/-- the next rising list of numbers below n -/
def nxt (n : Nat) : List Nat → Option (List Nat)
  | [] => none
  | a :: t => match nxt n t with
    | some t' => some (a :: t')
    | none => if a + (t.length + 1) = n then none else some ((List.range (t.length + 1)).map (a + 1 + ·))
/-- rising, from lo on, below n -/
def Rise (n : Nat) : Nat → List Nat → Prop
  | _, [] => True
  | lo, a :: t => lo ≤ a ∧ a < n ∧ Rise n (a + 1) t
def lt : List Nat → List Nat → Prop
  | a :: t, b :: u => a < b ∨ (a = b ∧ lt t u)
  | _, _ => False
theorem Rise.le {n : Nat} : ∀ {l : List Nat} {lo : Nat}, Rise n lo l → l ≠ [] → lo + l.length ≤ n
  | [], _, _, h => absurd rfl h
  | [a], lo, h, _ => by
    obtain ⟨h1, h2, _⟩ := h
    show lo + 1 ≤ n
    omega
  | a :: b :: t, lo, h, _ => by
    obtain ⟨h1, h2, h3⟩ := h
    have := Rise.le h3 (by simp)
    simp only [List.length_cons] at this ⊢
    omega
theorem Rise.mono {n : Nat} : ∀ {l : List Nat} {lo lo' : Nat}, Rise n lo l → lo' ≤ lo → Rise n lo' l
  | [], _, _, _, _ => trivial
  | _ :: _, _, _, h, e => ⟨Nat.le_trans e h.1, h.2⟩
theorem range_map {k b : Nat} : (List.range (k + 1)).map (b + ·) = b :: (List.range k).map (b + 1 + ·) := by
  rw [List.range_succ_eq_map]
  simp only [List.map_cons, List.map_map, Nat.add_zero]
  congr 1
  apply List.map_congr_left
  intro x _
  simp only [Function.comp_apply]
  omega
theorem rise_range {n : Nat} : ∀ {k b : Nat}, b + k ≤ n → Rise n b ((List.range k).map (b + ·))
  | 0, _, _ => trivial
  | k + 1, b, h => by
    rw [range_map]
    exact ⟨Nat.le_refl _, by omega, rise_range (by omega)⟩
theorem not_lt_range {n : Nat} : ∀ {k b : Nat} {l : List Nat}, Rise n b l → l.length = k → ¬ lt l ((List.range k).map (b + ·))
  | 0, b, l, h, e, q => by
    obtain rfl := List.length_eq_zero_iff.mp e
    exact q
  | k + 1, b, [], h, e, q => by cases e
  | k + 1, b, a :: t, h, e, q => by
    rw [range_map] at q
    rcases q with q | ⟨rfl, q⟩
    · have := h.1
      omega
    · exact not_lt_range h.2.2 (Nat.succ.inj e) q
theorem nxt_none {n : Nat} : ∀ {c l : List Nat} {lo : Nat}, nxt n c = none → Rise n lo c → Rise n lo l → l.length = c.length → l = c ∨ lt l c
  | [], l, lo, h, hc, hl, e => .inl (List.length_eq_zero_iff.mp e)
  | a :: t, [], lo, h, hc, hl, e => by cases e
  | a :: t, b :: u, lo, h, hc, hl, e => by
    unfold nxt at h
    split at h
    · cases h
    · rename_i ht
      split at h
      · rename_i ha
        have e1 : u.length = t.length := Nat.succ.inj e
        have hb := hl.le (by simp)
        have : b + (u.length + 1) ≤ n := Rise.le (lo := b) (l := b :: u) ⟨Nat.le_refl _, hl.2.1, hl.2.2⟩ (by simp)
        rcases Nat.lt_or_ge b a with q | q
        · exact .inr (.inl q)
        · have : b = a := by omega
          subst this
          rcases nxt_none ht hc.2.2 hl.2.2 e1 with q | q
          · exact .inl (by rw [q])
          · exact .inr (.inr ⟨rfl, q⟩)
      · cases h
theorem nxt_some {n : Nat} : ∀ {c c' : List Nat} {lo : Nat}, nxt n c = some c' → Rise n lo c → Rise n lo c' ∧ c'.length = c.length ∧ lt c c' ∧ ∀ l, Rise n lo l → l.length = c.length → lt l c' → l = c ∨ lt l c
  | [], c', lo, h, hc => by cases h
  | a :: t, c', lo, h, hc => by
    unfold nxt at h
    split at h
    · rename_i t' ht
      cases h
      obtain ⟨h1, h2, h3, h4⟩ := nxt_some ht hc.2.2
      refine ⟨⟨hc.1, hc.2.1, h1⟩, by simp [h2], .inr ⟨rfl, h3⟩, fun l hl e q => ?_⟩
      match l, hl, e with
      | b :: u, hl, e =>
        rcases q with q | ⟨eb, q⟩
        · exact .inr (.inl q)
        · subst eb
          rcases h4 u hl.2.2 (Nat.succ.inj e) q with z | z
          · exact .inl (by rw [z])
          · exact .inr (.inr ⟨rfl, z⟩)
    · rename_i ht
      split at h
      · cases h
      · rename_i ha
        cases h
        have hle : a + (t.length + 1) ≤ n := Rise.le (lo := a) (l := a :: t) ⟨Nat.le_refl _, hc.2.1, hc.2.2⟩ (by simp)
        refine ⟨(rise_range (by omega)).mono (by have := hc.1; omega), by simp, ?_, fun l hl e q => ?_⟩
        · rw [range_map]
          exact .inl (Nat.lt_succ_self a)
        · match l, hl, e with
          | b :: u, hl, e =>
            have e1 : u.length = t.length := Nat.succ.inj e
            rw [range_map] at q
            rcases q with q | ⟨eb, q⟩
            · rcases Nat.lt_or_ge b a with z | z
              · exact .inr (.inl z)
              · have : b = a := by omega
                subst this
                rcases nxt_none ht hc.2.2 hl.2.2 e1 with z | z
                · exact .inl (by rw [z])
                · exact .inr (.inr ⟨rfl, z⟩)
            · subst eb
              exact absurd q (not_lt_range hl.2.2 e1)
/-- what counts down -/
def val (n : Nat) : List Nat → Nat
  | [] => 0
  | a :: t => a * n ^ t.length + val n t
theorem val_lt {n : Nat} : ∀ {l : List Nat} {lo : Nat}, Rise n lo l → val n l < n ^ l.length
  | [], _, _ => by simp [val]
  | a :: t, lo, h => by
    have h1 := val_lt h.2.2
    have h2 : (a + 1) * n ^ t.length ≤ n * n ^ t.length := Nat.mul_le_mul_right _ h.2.1
    show a * n ^ t.length + val n t < n ^ (t.length + 1)
    rw [Nat.pow_succ, Nat.mul_comm (n ^ t.length) n]
    rw [Nat.add_mul, Nat.one_mul] at h2
    omega
theorem lt_val {n : Nat} : ∀ {l k : List Nat} {lo lo' : Nat}, Rise n lo l → Rise n lo' k → l.length = k.length → lt l k → val n l < val n k
  | [], [], _, _, _, _, _, q => q.elim
  | [], _ :: _, _, _, _, _, e, _ => by cases e
  | _ :: _, [], _, _, _, _, e, _ => by cases e
  | a :: t, b :: u, lo, lo', h, h', e, q => by
    have e1 : t.length = u.length := Nat.succ.inj e
    show a * n ^ t.length + val n t < b * n ^ u.length + val n u
    rw [e1]
    rcases q with q | ⟨rfl, q⟩
    · have h1 := val_lt h.2.2
      rw [e1] at h1
      have h2 : (a + 1) * n ^ u.length ≤ b * n ^ u.length := Nat.mul_le_mul_right _ q
      rw [Nat.add_mul, Nat.one_mul] at h2
      omega
    · have := lt_val h.2.2 h'.2.2 e1 q
      omega
/-- the form that the machine has it in -/
def mform (n : Nat) (c : List Nat) : Option (List Nat) := match (List.range c.length).reverse.find? fun i => c.getD i 0 != i + n - c.length with
  | none => none
  | some i => some (c.take i ++ (List.range (c.length - i)).map (c.getD i 0 + 1 + ·))
theorem mform_cons (n a : Nat) (t : List Nat) : mform n (a :: t) = match mform n t with
    | some t' => some (a :: t')
    | none => if a = n - (t.length + 1) then none else some ((List.range (t.length + 1)).map (a + 1 + ·)) := by
  have e1 : (List.range (a :: t).length).reverse = (List.range t.length).reverse.map (· + 1) ++ [0] := by
    rw [List.length_cons, List.range_succ_eq_map, List.reverse_cons, List.map_reverse]
  have e2 : ((List.range t.length).reverse.map (· + 1)).find? (fun i => (a :: t).getD i 0 != i + n - (a :: t).length) = ((List.range t.length).reverse.find? fun i => t.getD i 0 != i + n - t.length).map (· + 1) := by
    rw [List.find?_map]
    congr 2
    funext i
    simp only [Function.comp_apply, List.getD_cons_succ, List.length_cons]
    congr 1
    omega
  unfold mform
  rw [e1, List.find?_append, e2]
  cases h : (List.range t.length).reverse.find? fun i => t.getD i 0 != i + n - t.length with
  | some i =>
    simp only [Option.map_some, Option.some_or, List.take_succ_cons, List.length_cons, List.getD_cons_succ, List.cons_append]
    rw [Nat.add_sub_add_right]
  | none =>
    simp only [Option.map_none, Option.none_or, List.length_cons]
    by_cases ha : a = n - (t.length + 1)
    · rw [if_pos ha]
      have : List.find? (fun i => (a :: t).getD i 0 != i + n - (t.length + 1)) [0] = none := by
        rw [List.find?_cons]
        simp [ha]
      rw [this]
    · rw [if_neg ha]
      have : List.find? (fun i => (a :: t).getD i 0 != i + n - (t.length + 1)) [0] = some 0 := by
        have e : (a != n - (t.length + 1)) = true := by simpa using ha
        rw [List.find?_cons]
        simp only [List.getD_cons_zero, Nat.zero_add, e]
      rw [this]
      rfl
theorem nxt_form (n : Nat) : ∀ (c : List Nat) (lo : Nat), Rise n lo c → mform n c = nxt n c
  | [], _, _ => rfl
  | a :: t, lo, h => by
    rw [mform_cons n a t]
    have hle : a + (t.length + 1) ≤ n := Rise.le (lo := a) (l := a :: t) ⟨Nat.le_refl _, h.2.1, h.2.2⟩ (by simp)
    unfold nxt
    rw [nxt_form n t _ h.2.2]
    have : (a + (t.length + 1) = n) ↔ (a = n - (t.length + 1)) := by omega
    simp only [this]
end CBM
namespace PySem
namespace CB
open PySem.Spec PyProof.Rows
abbrev combO (P : Addr) (st : Int) (last : Value) (idx : List Nat) : Obj := { cls := .type "itertools.combinations", dict := none, data := .fields (([.ref P, rawInt st, last] ++ idx.map fun (i : Nat) => rawInt i).toArray), slots := #[] }
theorem set1 {P : Addr} {st k : Int} {last : Value} {idx : List Nat} : Obj.mapFields (fun x => x.setIfInBounds 1 (rawInt k)) (combO P st last idx) = combO P k last idx := by
  simp only [combO, Obj.mapFields, List.setIfInBounds_toArray]
  rfl
theorem set2 {P : Addr} {st : Int} {last v : Value} {idx : List Nat} : Obj.mapFields (fun x => x.setIfInBounds 2 v) (combO P st last idx) = combO P st v idx := by
  simp only [combO, Obj.mapFields, List.setIfInBounds_toArray]
  rfl
theorem set3 {P : Addr} {st : Int} {last : Value} {idx nx : List Nat} : Obj.mapFields (fun fs => fs.extract 0 3 ++ (nx.map fun (n : Nat) => rawInt n).toArray) (combO P st last idx) = combO P st last nx := by
  simp only [combO, Obj.mapFields]
  congr 1
  simp
theorem nums {P : Addr} {st : Int} {last : Value} {idx : List Nat} : (List.map (fun x => match x with | Value.int n tok => n.toNat | x => 0) (List.drop 3 ([Value.ref P, rawInt st, last] ++ List.map (fun (i : Nat) => rawInt i) idx).toArray.toList)) = idx := by
  show List.map _ (List.map _ idx) = idx
  rw [List.map_map]
  conv => rhs; rw [← List.map_id idx]
  apply List.map_congr_left
  intro x _
  rfl
theorem past_none {P : Addr} {st : Int} {last : Value} {idx : List Nat} (hl : idx.length ≤ 1000) : (combO P st last idx).data.pastItsLine = none := by
  unfold Data.pastItsLine
  simp only [combO]
  rw [if_neg]
  simp only [List.size_toArray, List.length_append, List.length_map, List.length_cons, List.length_nil, sizeLine_eq]
  omega
theorem P_ne {h : Heap} {c P : Addr} {st : Int} {last : Value} {idx : List Nat} {items : Array Value} (hc : h.get? c = some (combO P st last idx)) (hP : h.get? P = some { cls := .type "tuple", data := .seq items }) : P ≠ c := fun z => by
  rw [z, hc] at hP
  have e := congrArg Obj.cls (Option.some.inj hP)
  exact absurd (Value.type.inj e) (by decide)
section
variable {prog : Program} {w : World} {A : Around} {E : Value → Shared → Prop} {s : Shared}
theorem next_first {c P : Addr} {last : Value} {idx : List Nat} {items : Array Value} {Q : Fin → Shared → Prop} (hc : s.heap.get? c = some (combO P 0 last idx)) (hP : s.heap.get? P = some { cls := .type "tuple", data := .seq items }) (hl : idx.length ≤ 1000)
    (h : ∀ h' T, s.heap.objs.size ≤ T → h'.get? T = some { cls := .type "tuple", data := .seq (idx.map fun i => items.getD i .none).toArray } → h'.get? c = some (combO P 1 (.ref T) idx) → (∀ b o, b ≠ c → s.heap.get? b = some o → h'.get? b = some o) → Q (.done (.ret (.ref T))) { s with heap := h' }) :
    wpAny (model prog w) A (Builtin.«itertools.combinations.__next__» ⟨[.ref c], []⟩) Q E s := by
  obtain ⟨hp, g, d, tk, os⟩ := s
  have hc' : Heap.get? hp c = some (combO P 0 last idx) := hc
  have hP' : Heap.get? hp P = some { cls := .type "tuple", data := .seq items } := hP
  wp_walk using wpAny_field hc' rfl rfl
  have nPc := P_ne hc' hP'
  have hc1 : (hp.update c (Obj.mapFields fun x => x.setIfInBounds 1 (rawInt 1))).get? c = some (combO P 1 last idx) := by
    rw [Heap.get?_update_self _ hc' (by rw [set1]; rfl), set1]
  have k1 : ∀ b o, b ≠ c → hp.get? b = some o → (hp.update c (Obj.mapFields fun x => x.setIfInBounds 1 (rawInt 1))).get? b = some o := fun b o hb e => (Heap.SameBut.update ..).extBut b o hb e
  have sz1 : (hp.update c (Obj.mapFields fun x => x.setIfInBounds 1 (rawInt 1))).objs.size = hp.objs.size := (Heap.SameBut.update ..).1
  generalize hp.update c (Obj.mapFields fun x => x.setIfInBounds 1 (rawInt 1)) = h1 at hc1 k1 sz1 ⊢
  refine wpAny_load (show Heap.get? (Shared.heap ⟨h1, g, d, tk, os⟩) P = some { cls := .type "tuple", data := .seq items } from k1 P _ nPc hP') ?_
  refine wpAny_pure ?_
  refine wpAny_pure ?_
  refine Eq.mpr (congrArg (fun l => wpAny (model prog w) A (newTuple (List.map (fun i => items.getD i Value.none) l)) _ E _) (nums (P := P) (st := 0) (last := last) (idx := idx))) ?_
  refine wpAny_newTuple ?_ (by rw [List.length_map, sizeLine_eq]; omega)
  have hc2 : (h1.push { cls := .type "tuple", data := .seq (idx.map fun i => items.getD i .none).toArray }).get? c = some (combO P 1 last idx) := Heap.get?_push_of_some _ hc1
  refine wpAny_bind (wpAny_field (x := last) hc2 rfl rfl ?_)
  refine wpAny_bind (wpAny_setField hc2 rfl (by simp) ?_)
  refine wpAny_bind (wpAny_letGo (wpAny_pure ?_))
  have hTc : h1.objs.size ≠ c := Nat.ne_of_gt (Heap.lt_size hc1)
  refine h _ h1.objs.size (Nat.le_of_eq sz1.symm) ((Heap.SameBut.update ..).extBut _ _ hTc (Heap.get?_push_size _ rfl)) ?_ fun b o hb e => (Heap.SameBut.update ..).extBut b o hb (Heap.get?_push_of_some _ (k1 b o hb e))
  rw [Heap.get?_update_self _ hc2 (by rw [set2]; rfl), set2]
theorem next_more {c P : Addr} {last : Value} {idx nx : List Nat} {items : Array Value} {lo : Nat} {Q : Fin → Shared → Prop} (hc : s.heap.get? c = some (combO P 1 last idx)) (hP : s.heap.get? P = some { cls := .type "tuple", data := .seq items }) (hl : idx.length ≤ 1000)
    (hR : CBM.Rise items.size lo idx) (hn : CBM.nxt items.size idx = some nx)
    (h : ∀ h' T, s.heap.objs.size ≤ T → h'.get? T = some { cls := .type "tuple", data := .seq (nx.map fun i => items.getD i .none).toArray } → h'.get? c = some (combO P 1 (.ref T) nx) → (∀ b o, b ≠ c → s.heap.get? b = some o → h'.get? b = some o) → Q (.done (.ret (.ref T))) { s with heap := h' }) :
    wpAny (model prog w) A (Builtin.«itertools.combinations.__next__» ⟨[.ref c], []⟩) Q E s := by
  obtain ⟨hp, g, d, tk, os⟩ := s
  have hc' : Heap.get? hp c = some (combO P 1 last idx) := hc
  have hP' : Heap.get? hp P = some { cls := .type "tuple", data := .seq items } := hP
  have nPc := P_ne hc' hP'
  obtain ⟨hP2⟩ : Nonempty (Heap.get? hp P = some { cls := .type "tuple", data := .seq items }) := ⟨hP'⟩
  have hlen := (CBM.nxt_some hn hR).2.1
  wp_walk using wpAny_field hc' rfl rfl, wpAny_load hP'
  split
  · rename_i nx' heq
    obtain ⟨l, hle, e⟩ : ∃ l, l = idx ∧ CBM.mform items.size l = some nx' := ⟨_, nums (P := P) (st := 1) (last := last), heq⟩
    rw [hle] at e
    rw [CBM.nxt_form _ _ _ hR, hn] at e
    cases e
    clear hP' hP
    wp_walk using wpAny_load hc'
    split
    · rename_i what heq2
      exact absurd (show (Obj.mapFields (fun fs => fs.extract 0 3 ++ (nx.map fun (n : Nat) => rawInt n).toArray) (combO P 1 last idx)).data.pastItsLine = some what from heq2) (by
        rw [set3, past_none (by rw [hlen]; exact hl)]
        exact fun z => nomatch z)
    · refine wpAny_pure ?_
      have hc1 : (hp.update c (Obj.mapFields fun fs => fs.extract 0 3 ++ (nx.map fun (n : Nat) => rawInt n).toArray)).get? c = some (combO P 1 last nx) := by
        rw [Heap.get?_update_self _ hc' (by rw [set3]; rfl), set3]
      have k1 : ∀ b o, b ≠ c → hp.get? b = some o → (hp.update c (Obj.mapFields fun fs => fs.extract 0 3 ++ (nx.map fun (n : Nat) => rawInt n).toArray)).get? b = some o := fun b o hb e => (Heap.SameBut.update ..).extBut b o hb e
      have sz1 : (hp.update c (Obj.mapFields fun fs => fs.extract 0 3 ++ (nx.map fun (n : Nat) => rawInt n).toArray)).objs.size = hp.objs.size := (Heap.SameBut.update ..).1
      generalize hp.update c (Obj.mapFields fun fs => fs.extract 0 3 ++ (nx.map fun (n : Nat) => rawInt n).toArray) = h1 at hc1 k1 sz1 ⊢
      wp_walk
      refine wpAny_load (show Heap.get? (Shared.heap ⟨h1, g, d, tk, os⟩) P = some { cls := .type "tuple", data := .seq items } from k1 P _ nPc hP2) ?_
      refine wpAny_pure ?_
      refine wpAny_pure ?_
      refine wpAny_newTuple ?_ (by rw [List.length_map, sizeLine_eq]; omega)
      have hc2 : (h1.push { cls := .type "tuple", data := .seq (nx.map fun i => items.getD i .none).toArray }).get? c = some (combO P 1 last nx) := Heap.get?_push_of_some _ hc1
      refine wpAny_bind (wpAny_field (x := last) hc2 rfl rfl ?_)
      refine wpAny_bind (wpAny_setField hc2 rfl (by simp) ?_)
      refine wpAny_bind (wpAny_letGo (wpAny_pure ?_))
      have hTc : h1.objs.size ≠ c := Nat.ne_of_gt (Heap.lt_size hc1)
      refine h _ h1.objs.size (Nat.le_of_eq sz1.symm) ((Heap.SameBut.update ..).extBut _ _ hTc (Heap.get?_push_size _ rfl)) ?_ fun b o hb e => (Heap.SameBut.update ..).extBut b o hb (Heap.get?_push_of_some _ (k1 b o hb e))
      rw [Heap.get?_update_self _ hc2 (by rw [set2]; rfl), set2]
  · rename_i heq
    obtain ⟨l, hle, e⟩ : ∃ l, l = idx ∧ CBM.mform items.size l = none := ⟨_, nums (P := P) (st := 1) (last := last), heq⟩
    rw [hle] at e
    rw [CBM.nxt_form _ _ _ hR, hn] at e
    cases e
theorem next_end {c P : Addr} {last : Value} {idx : List Nat} {items : Array Value} {lo : Nat} {Q : Fin → Shared → Prop} (hh : A.handled = none) (hc : s.heap.get? c = some (combO P 1 last idx)) (hP : s.heap.get? P = some { cls := .type "tuple", data := .seq items })
    (hR : CBM.Rise items.size lo idx) (hn : CBM.nxt items.size idx = none)
    (h : ∀ h' e, (∃ o, h'.get? e = some o ∧ o.cls = .type "StopIteration") → (∀ b o, b ≠ c → s.heap.get? b = some o → h'.get? b = some o) → E (.ref e) { s with heap := h' }) :
    wpAny (model prog w) A (Builtin.«itertools.combinations.__next__» ⟨[.ref c], []⟩) Q E s := by
  obtain ⟨hp, g, d, tk, os⟩ := s
  have hc' : Heap.get? hp c = some (combO P 1 last idx) := hc
  have hP' : Heap.get? hp P = some { cls := .type "tuple", data := .seq items } := hP
  have nPc := P_ne hc' hP'
  wp_walk using wpAny_field hc' rfl rfl, wpAny_load hP'
  split
  · rename_i nx' heq
    obtain ⟨l, hle, e⟩ : ∃ l, l = idx ∧ CBM.mform items.size l = some nx' := ⟨_, nums (P := P) (st := 1) (last := last), heq⟩
    rw [hle] at e
    rw [CBM.nxt_form _ _ _ hR, hn] at e
    cases e
  · refine wpAny_bind (wpAny_setField hc' rfl (by simp) ?_)
    show wpAny _ _ (newExc (.type "StopIteration") [] >>= _) _ _ _
    refine wpAny_bind ?_
    simp only [newExc, newTuple]
    refine wpAny_bind (wpAny_newObj_type ?_ (by size_fits))
    refine wpAny_bind (m := firstArgMember _ _) (wpAny_of_eq (a := Value.none) (by first | rfl | (simp only [firstArgMember]; rfl)) ?_)
    refine wpAny_newObj_type ?_ (by size_fits)
    simp only [raiseNew]
    refine wpAny_bind (wpAny_handled ?_)
    first | rw [show A.in1.handled = none from hh] | rw [hh]
    refine wpAny_bind (wpAny_pure (wpAny_throw ?_))
    exact h _ _ ⟨_, Heap.get?_push_size _ rfl, rfl⟩ fun b o hb e => Heap.get?_push_of_some _ (Heap.get?_push_of_some _ ((Heap.SameBut.update ..).extBut b o hb e))
end
end CB
end PySem
namespace PySem
namespace CB
open PySem.Spec PyProof.Rows L2
/-- the lists that come, in turn -/
def sq (m r : Nat) : Nat → Option (List Nat)
  | 0 => some (List.range r)
  | i + 1 => (sq m r i).bind (CBM.nxt m)
theorem sq_rise {m r : Nat} (h : r ≤ m) : ∀ {i : Nat} {l : List Nat}, sq m r i = some l → CBM.Rise m 0 l ∧ l.length = r
  | 0, l, e => by
    cases e
    refine ⟨?_, List.length_range⟩
    have := CBM.rise_range (n := m) (k := r) (b := 0) (by omega)
    rwa [show (List.range r).map (0 + ·) = List.range r by simp] at this
  | i + 1, l, e => by
    obtain ⟨l0, e0, e1⟩ := Option.bind_eq_some_iff.mp e
    obtain ⟨a, b⟩ := sq_rise h e0
    obtain ⟨c, d, _⟩ := CBM.nxt_some e1 a
    exact ⟨c, d.trans b⟩
def natV (l : List Nat) : List V := l.map fun k => V.int (k : Nat)
/-- the lists of numbers, each a new tuple -/
def Itc (m r : Nat) : It := ⟨fun i _ => ∃ l, sq m r i = some l, fun i H v H' => ∃ T l, v = .ref T ∧ H T = none ∧ H' = upd H T (.tup (natV l)) ∧ sq m r i = some l, fun i _ => sq m r i = none⟩
section
variable {prog : Program} {w : World} {A : Around} {E : Value → Shared → Prop} {s : Shared}
theorem pyIter_comb {c P : Addr} {st : Int} {last : Value} {idx : List Nat} {Q : Value → Shared → Prop} (hc : s.heap.get? c = some (combO P st last idx)) (h : Q (.ref c) s) : wpAny (model prog w) A (pyIter (.ref c)) Q E s := by
  have hT : s.TypeIs (.ref c) "itertools.combinations" := ⟨_, hc, rfl⟩
  refine wpAny_pyIter_slot hT slot_iter (wpAny_call_entry slot_iter hT entry_iter ?_ (args_iter_1 _))
  show wpAny _ _ (ret (.ref c)) _ _ s
  exact wpAny_pure ⟨_, rfl, "itertools.combinations", _, hT, slot_next.lookup, h⟩
theorem pyNext_item {c P : Addr} {Q : Option Value → Shared → Prop} {o : Obj} (hT : s.TypeIs (.ref c) "itertools.combinations")
    (h : wpAny (model prog w) A.in1 (Builtin.«itertools.combinations.__next__» ⟨[.ref c], []⟩) (fun fin s' => ∃ v, fin = .done (.ret v) ∧ Q (some v) s') (fun _ _ => False) s) : wpAny (model prog w) A (pyNext (.ref c)) Q E s := by
  unfold pyNext
  refine wpAny_bind (wpAny_attempt (wpAny_callSpecial?_slot (name := Str.ofString "__next__") hT slot_next
    (wpAny_call_entry slot_next hT entry_next (wpAny_mono h (fun fin s' ⟨v, e, q⟩ => ⟨v, e, wpAny_pure q⟩) fun _ _ e => e.elim) (args_next_1 _))))
theorem pyNext_end {c P : Addr} {last : Value} {idx : List Nat} {items : Array Value} {lo : Nat} {Q : Option Value → Shared → Prop} (hh : A.handled = none) (hc : s.heap.get? c = some (combO P 1 last idx)) (hP : s.heap.get? P = some { cls := .type "tuple", data := .seq items })
    (hR : CBM.Rise items.size lo idx) (hn : CBM.nxt items.size idx = none) (hQ : ∀ h', (∀ b o, b ≠ c → s.heap.get? b = some o → h'.get? b = some o) → Q none { s with heap := h' }) : wpAny (model prog w) A (pyNext (.ref c)) Q E s := by
  have hT : s.TypeIs (.ref c) "itertools.combinations" := ⟨_, hc, rfl⟩
  unfold pyNext
  refine wpAny_bind (wpAny_attempt (wpAny_callSpecial?_slot (name := Str.ofString "__next__") hT slot_next
    (wpAny_call_entry slot_next hT entry_next (next_end (A := A.in1) hh hc hP hR hn fun h' e he hk => ?_) (args_next_1 _))))
  obtain ⟨o, ho, hco⟩ := he
  refine wpAny_bind (wpAny_isInstance (T := "StopIteration") (b := true) ⟨o, ho, hco⟩ isSubtype_stop ?_)
  exact wpAny_pure (hQ _ hk)
end
/-- the record at c as it stands when i lists have come -/
def CombAt (m r : Nat) (c P : Addr) (acc : Array Value) (i : Nat) (h : Heap) : Prop := h.get? P = some { cls := .type "tuple", data := .seq acc } ∧ ∃ st last idx, h.get? c = some (combO P st last idx) ∧ ((i = 0 ∧ st = 0 ∧ idx = List.range r) ∨ ∃ j, i = j + 1 ∧ st = 1 ∧ sq m r j = some idx)
theorem vals_idx {m : Nat} {acc : Array Value} (ha : acc.size = m) (hv : ∀ (i : Nat) (v : Value), acc[i]? = some v → ∃ t, v = Value.int ((i : Nat) : Int) t) : ∀ {l : List Nat} {lo : Nat}, CBM.Rise m lo l → Vals (natV l) (l.map fun i => acc.getD i .none)
  | [], _, _ => .nil
  | a :: t, lo, h => by
    refine .cons ?_ (vals_idx ha hv h.2.2)
    have hlt : a < acc.size := by rw [ha]; exact h.2.1
    have e : acc[a]? = some acc[a] := Array.getElem?_eq_getElem hlt
    obtain ⟨tk, et⟩ := hv a _ e
    refine ⟨tk, ?_⟩
    show acc.getD a .none = _
    rw [Array.getD_eq_getD_getElem?, e]
    exact et
theorem turn_comb {P : Program} {w : World} {K : PySem.W.Frag} {tg : Expr} {m r : Nat} {c Pl : Addr} {acc : Array Value} (hm : m ≤ 1000) (hrm : r ≤ m) (ha : acc.size = m) (hv : ∀ (i : Nat) (v : Value), acc[i]? = some v → ∃ t, v = Value.int ((i : Nat) : Int) t) :
    Turn P w K tg (Itc m r) [c, Pl] c (CombAt m r c Pl acc) where
  mem := by simp
  obj := fun i h st b hb => by
    obtain ⟨hP, s1, last, idx, hc, _⟩ := st
    have e' : b = c ∨ b = Pl := by simpa using hb
    rcases e' with q | q
    · rw [q]; exact ⟨_, hc, fun v z => nomatch z⟩
    · rw [q]; exact ⟨_, hP, fun v z => nomatch z⟩
  keep := fun i h h' st k => by
    obtain ⟨hP, s1, last, idx, hc, q⟩ := st
    exact ⟨k Pl (by simp) _ hP, s1, last, idx, k c (by simp) _ hc, q⟩
  item := by
    intro X hP hw hK hc i pins s σ H E I hf st hg
    subst hP hw hK
    obtain ⟨hPl, s1, last, idx, hcb, hst⟩ := st
    obtain ⟨l, hl⟩ := hg
    have nPc := P_ne hcb hPl
    have hlt : c < s.heap.objs.size := Heap.lt_size hcb
    have hT : s.TypeIs (.ref c) "itertools.combinations" := ⟨_, hcb, rfl⟩
    obtain ⟨hRl, hll⟩ := sq_rise hrm hl
    have fin : ∀ (h' : Heap) (T : Addr), s.heap.objs.size ≤ T → h'.get? T = some { cls := .type "tuple", data := .seq (l.map fun i => acc.getD i .none).toArray } → h'.get? c = some (combO Pl 1 (.ref T) l) → (∀ b o, b ≠ c → s.heap.get? b = some o → h'.get? b = some o) →
        ∃ u, some (Value.ref T) = some u ∧ wpAny (model X.prog X.w) X.A (letOwnedTupleGo tg (.ref c) u) (fun _ s2 => ∃ x H', Inv X pins σ H' s2 ∧ RelV x u ∧ (Itc m r).yld i H x H' ∧ CombAt m r c Pl acc (i + 1) s2.heap ∧ ∀ b ∈ [c, Pl], H' b = none) E { s with heap := h' } := by
      intro h' T hTs hTg hc' hk
      refine ⟨_, rfl, go_of (s := { s with heap := h' }) hc' rfl rfl (by decide) ?_⟩
      have lv := vals_idx ha hv hRl
      have new : ObjOk X.prog X.w (upd H T (.tup (natV l))) h' T (.tup (natV l)) := ⟨by unfold natV; rw [List.length_map, sizeLine_eq]; omega, _, lv, ⟨_, hTg, rfl, _, rfl⟩⟩
      have I1 : Inv X pins σ (upd H T (.tup (natV l))) { s with heap := h' } := I.turnedNew (t' := s.toks) (ch := [c, Pl]) (fun b o hb e => hk b o (fun z => hb (by simp [z])) e) hf hTs new
      refine ⟨.ref T, _, I1, rfl, ⟨T, l, rfl, I.hok.fresh hTs, rfl, hl⟩, ⟨hk Pl _ nPc hPl, 1, .ref T, l, hc', .inr ⟨i, rfl, rfl, hl⟩⟩, fun b hb => ?_⟩
      have hbl : b < s.heap.objs.size := by
        have e' : b = c ∨ b = Pl := by simpa using hb
        rcases e' with q | q
        · rw [q]; exact hlt
        · rw [q]; exact Heap.lt_size hPl
      rw [upd_ne (Nat.ne_of_lt (Nat.lt_of_lt_of_le hbl hTs))]
      exact (hf b hb).1
    rcases hst with ⟨rfl, rfl, rfl⟩ | ⟨j, rfl, rfl, hj⟩
    · cases hl
      exact pyNext_item (P := Pl) (o := combO Pl 0 last (List.range r)) hT (next_first hcb hPl (by rw [List.length_range]; omega) fun h' T h1 h2 h3 h4 => ⟨_, rfl, fin h' T h1 h2 h3 h4⟩)
    · have hn : CBM.nxt m idx = some l := by
        have := hl
        unfold sq at this
        rw [hj] at this
        exact this
      obtain ⟨hRi, hli⟩ := sq_rise hrm hj
      exact pyNext_item (P := Pl) (o := combO Pl 0 last (List.range r)) hT (next_more (lo := 0) hcb hPl (by omega) (by rw [ha]; exact hRi) (by rw [ha]; exact hn) fun h' T h1 h2 h3 h4 => ⟨_, rfl, fin h' T h1 h2 h3 h4⟩)
  done := by
    intro X hP hw hK hc i pins s σ H E I hf st hg
    subst hP hw hK
    obtain ⟨hPl, s1, last, idx, hcb, hst⟩ := st
    rcases hst with ⟨rfl, rfl, rfl⟩ | ⟨j, rfl, rfl, hj⟩
    · cases hg
    · have hn : CBM.nxt m idx = none := by
        have := hg
        show _ = none
        have h2 : sq m r (j + 1) = none := this
        unfold sq at h2
        rw [hj] at h2
        exact h2
      obtain ⟨hRi, hli⟩ := sq_rise hrm hj
      exact pyNext_end (I.ok.hd hc) hcb hPl (lo := 0) (by rw [ha]; exact hRi) (by rw [ha]; exact hn) fun h' hk => ⟨rfl, I.turnedL (t' := s.toks) (ch := [c, Pl]) (fun b o hb e => hk b o (fun z => hb (by simp [z])) e) hf⟩
  self := fun A i s Q E st h => by
    obtain ⟨hPl, s1, last, idx, hcb, _⟩ := st
    exact pyIter_comb hcb h
/-- combinations(range(a), b) -/
def iComb (ta : TA) (tr : TE) : TI := fun σ H R => ta σ H fun vs H1 => ∃ m : Nat, vs = [.int (m : Nat)] ∧ m ≤ 1000 ∧ tr σ H1 fun v H2 => ∃ r : Nat, v = .int (r : Nat) ∧ r ≤ m ∧ R (Itc m r) H2
theorem pi_comb {X : Cx} {tg a b : Expr} {ta : TA} {tr : TE} {p p2 pos pos2 : Pos} (hg : Gl X "combinations") (hm : X.mg "combinations" = some (.type "itertools.combinations")) (hgr : Gl X "range") (hmr : X.mg "range" = none) (ha : PA X [a] ta) (hb : PE X b tr) (hc : X.calm = true := by rfl)
    (hs : starEach [.Call (.Name "range" p2) [a] [] pos2, b] X.env = (false, eval (.Call (.Name "range" p2) [a] [] pos2) X.env) :: starEach [b] X.env := by rfl) (hpl : (backTo pos (starEach [b] X.env)).any (·.1) = false := by rfl)
    (hs2 : starEach [a] X.env = [(false, eval a X.env)] := by rfl) (hs3 : starEach [b] X.env = (false, eval b X.env) :: starEach [] X.env := by rfl) :
    PI X tg (.Call (.Name "combinations" p) [.Call (.Name "range" p2) [a] [] pos2, b] [] pos) (iComb ta tr) := by
  refine ⟨fun pins s σ H R I h => ?_⟩
  refine Call_ (ld_glob I hg hm (PyProof.Rows.callWith_type1 ?_ hs hpl))
  rw [hs]
  show wpAny _ _ (spliced ((false, eval (.Call (.Name "range" p2) [a] [] pos2) X.env) :: backTo pos (starEach [b] X.env))) _ _ s
  refine Calls.spliced_cons ?_
  refine Call_ (ld_blt I hgr hmr boot_range (PyProof.Rows.callWith_type1 (thn (ha.run pos2 pins s σ H _ I h) fun us s1 ⟨vs, H1, I1, r1, q1⟩ => ?_) hs2 rfl))
  obtain ⟨m, rfl, hm1, q1⟩ := q1
  cases r1 with
  | cons r0 rr =>
    cases rr
    obtain ⟨t, rfl⟩ := r0
    refine call_range_1 ?_
    have I2 : Inv X pins σ H1 { s1 with heap := s1.heap.push { cls := .type "range", data := .fields #[.int 0 s1.toks, .int (m : Nat) t, .int 1 (s1.toks + 1)] }, toks := s1.toks + 1 + 1 } := I1.kept (t' := s1.toks + 1 + 1) fun b o e => Heap.get?_push_of_some _ e
    have f2 : FpOk X pins H1 s1.heap.objs.size := I1.fpOk (Nat.le_refl _) (I1.hok.fresh (Nat.le_refl _))
    have I2p := I2.pinned (fp := [s1.heap.objs.size]) (fun b hb => by rw [List.mem_singleton.mp hb]; exact f2) (fun b hb => by rw [List.mem_singleton.mp hb]; exact ⟨_, Heap.get?_push_size _ rfl, fun v z => nomatch z⟩)
    rw [hs3]
    show wpAny _ _ (spliced ((false, eval b X.env) :: backTo pos (starEach [] X.env))) _ _ _
    refine Calls.spliced_cons (thn (hb.run _ _ σ H1 _ I2p q1) fun u s2 ⟨x, H2, I3, r2, q2⟩ => Calls.spliced_nil ?_)
    obtain ⟨r, rfl, hrm, q⟩ := q2
    obtain ⟨tr', rfl⟩ := r2
    have hrg := (I3.pin (s1.heap.objs.size, _) (List.mem_append_right _ (List.mem_append_right _ (mem_pinsAt (List.mem_singleton_self _) (Heap.get?_push_size _ rfl))))).1
    refine call_comb (I3.ok.hd hc) hrg hm1 hrm fun h0 h' tk acc k0 k1 hacc hT hcb => ?_
    refine pyIter_comb hcb ?_
    have I4 : Inv X pins σ H2 { s2 with heap := h0 } := I3.unpinned.kept (t' := s2.toks) k0
    have I5 : Inv X pins σ H2 { s2 with heap := h', toks := tk } := I4.kept (t' := tk) k1
    refine ⟨h0.objs.size + 1, [h0.objs.size + 1, h0.objs.size], _, _, H2, rfl, I5, turn_comb hm1 hrm hacc.1 (fun i v e => ?_), ⟨hT, 0, .none, _, hcb, .inl ⟨rfl, rfl, rfl⟩⟩, fun b hb => ?_, q⟩
    · obtain ⟨tt, et⟩ := hacc.2 i v e
      exact ⟨tt, by rw [et]; simp⟩
    · have e' : b = h0.objs.size + 1 ∨ b = h0.objs.size := by simpa using hb
      rcases e' with z | z
      · rw [z]; exact I4.fpOk (Nat.le_succ _) (I4.hok.fresh (Nat.le_succ _))
      · rw [z]; exact I4.fpOk (Nat.le_refl _) (I4.hok.fresh (Nat.le_refl _))
end CB
end PySem
namespace Say
open PySem PySem.Spec PyProof.Rows L2
/-- the rules of these numbers -/
def pickR (rs : List Rule) (l : List Nat) : List Rule := l.map (ruleAt rs)
/-- what least is to tell -/
def LeastV (rs : List Rule) (ss : List Exc) : Option (List Nat) → Prop
  | some l => CBM.Rise rs.length 0 l ∧ saysAll (pickR rs l) ss = true ∧ (∀ l', CBM.Rise rs.length 0 l' → l'.length < l.length → saysAll (pickR rs l') ss = false) ∧ ∀ l', CBM.Rise rs.length 0 l' → l'.length = l.length → CBM.lt l' l → saysAll (pickR rs l') ss = false
  | none => ∀ l', CBM.Rise rs.length 0 l' → saysAll (pickR rs l') ss = false
def LeastAt (H H' : Hp) (v : V) : Option (List Nat) → Prop
  | some l => ∃ D, v = .ref D ∧ (∀ o, H D = some o → ∃ ps, o = .tbl ps) ∧ H' D = some (.lst (natsV l))
  | none => v = .non
theorem rise_mem {n : Nat} : ∀ {l : List Nat} {lo : Nat}, CBM.Rise n lo l → ∀ k ∈ l, k < n
  | [], _, _, _, hk => by cases hk
  | a :: t, _, h, k, hk => by
    rcases List.mem_cons.mp hk with rfl | hk
    · exact h.2.1
    · exact rise_mem h.2.2 k hk
theorem rise_len {n : Nat} {l : List Nat} (h : CBM.Rise n 0 l) : l.length ≤ n := by
  cases l with
  | nil => exact Nat.zero_le _
  | cons a t => have := h.le (by simp); omega
theorem pick_ok {rs : List Rule} {l : List Nat} (h : ∀ k ∈ l, k < rs.length) {Pr : Rule → Prop} (hp : ∀ ρ ∈ rs, Pr ρ) : ∀ ρ ∈ pickR rs l, Pr ρ := fun ρ hρ => by
  obtain ⟨k, hk, rfl⟩ := List.mem_map.mp hρ
  have hl := h k hk
  rw [ruleAt_eq (List.getElem?_eq_getElem hl)]
  exact hp _ (List.getElem_mem hl)
theorem pick_paired {H : Hp} {ts : List Addr} {rs : List Rule} (hp : Paired (fun t ρ => H t = some (.tup (Rule.vs ρ))) ts rs) : ∀ {l : List Nat}, (∀ k ∈ l, k < rs.length) → Paired (fun t ρ => H t = some (.tup (Rule.vs ρ))) (l.map fun k => ts.getD k 0) (pickR rs l)
  | [], _ => .nil
  | k :: l, h => by
    have hl := h k List.mem_cons_self
    obtain ⟨a, ha, hat⟩ := paired_at' hp (List.getElem?_eq_getElem hl)
    refine .cons ?_ (pick_paired hp fun j hj => h j (List.mem_cons_of_mem _ hj))
    show H (ts.getD k 0) = _
    rw [ruleAt_eq (List.getElem?_eq_getElem hl), List.getD_eq_getElem?_getD, ha]
    exact hat
abbrev sLe : Stmt := topS 54
abbrev nLe : List Str := ["letters", "rules", "samples", "many", "numbers", "number"]
theorem scLe : FnScope nLe ["letters", "rules", "samples"] (defScope sLe) := ⟨rfl, rfl, rfl, by decide +kernel, rfl, by decide +kernel, by decide +kernel⟩
def spLe (Ts : List (Addr × Str)) : Sp := fun vs H Q _ => ∃ (L : List Nat) (R S : Addr) (rs : List Rule) (ss : List Exc), vs = [.str (T L), .ref R, .ref S] ∧ LetOk L ∧ RulesAt H R rs ∧ (∀ ρ ∈ rs, RuleOk L ρ) ∧ rs.length ≤ 12 ∧ SampsAt H S ss ∧ (∀ e ∈ ss, ExcOk L e) ∧ ss.length ≤ 12 ∧ LamX.Tabs Ts H ∧
  ∀ (o : Option (List Nat)) (v : V) (H' : Hp), LamX.ExtN H H' → LamX.Tabs Ts H' → LeastV rs ss o → LeastAt H H' v o → Q v H'
section
variable {P : Program} {w : World} {K : PySem.W.Frag} {mg : Str → Option Value} {base : Heap}
theorem ok_le {f : Addr} {fd : FuncData} {Ts : List (Addr × Str)} (F : Fun K "least" "least" sLe f fd) (B : Bn mg) (hC : mg "combinations" = some (.type "itertools.combinations")) (DC : Df P w K mg base "check_all" ["letters", "rules", "samples"] 5 spChA) (DA : Df P w K mg base "are_said" ["rules", "samples"] 9 (spAre Ts)) :
    FnOk P w K mg base CX0 10 f fd ["letters", "rules", "samples"] (spLe Ts) := by
  obtain ⟨fC, fdC, GC, kC, bC, mC⟩ := DC
  obtain ⟨fA, fdA, GA, kA, bA, mA⟩ := DA
  refine F.ok scLe (fun vs H Q E h => ?_) (fun cdv A outer s H vs Q E hr h => ?_)
  · obtain ⟨L, R, S, rs, ss, rfl, _⟩ := h
    rfl
  · obtain ⟨L, R, S, rs, ss, rfl, hL, hR, ho, h12, hS, hs, s12, hT, q⟩ := h
    refine ⟨_, pss_cons (ps_expr (pe_call GC (hr.mono (by decide)) (by rfl) mC kC bC .nil pass0 (pa_cons (pv 0) (pa_cons (pv 1) (pa_cons (pv 2) pa_nil)))))
      (pss_cons (ps_for PassesOwn.never rfl (pi_range1 (by rfl) B.rng (pa_cons (pe_op op_add (pe_callB call_len_seq (by rfl) B.len PySem.boot_len (pa_cons (pv 1) pa_nil)) pe_int) pa_nil)) (pg_name (i := 3) scLe.nd rfl (.inl rfl))
        (pss_one (ps_for PassesOwn.never rfl (CB.pi_comb (by rfl) hC (by rfl) B.rng (pa_cons (pe_callB call_len_seq (by rfl) B.len PySem.boot_len (pa_cons (pv 1) pa_nil)) pa_nil) (pv 3)) (pg_name (i := 4) scLe.nd rfl (.inl rfl))
          (pss_one (ps_if (pt_val (pe_call GA hr (by rfl) mA kA bA .nil pass0 (pa_cons (pe_lc (own := [("number", 5)]) (g := gName 5) (te := tOp (rIxT K) (tVar 1) (tVar 5)) rfl scLe.nd (pi_tup (pv 4))
              (blkOk_by (N := nLe) (sc := defScope sLe) (by decide +kernel)) (fun _ _ _ _ _ => pg_name (i := 5) scLe.nd rfl (.inl rfl)) (fun _ _ _ _ _ => pts_nil) (fun _ _ _ _ _ => pe_ix ix_tup (pv 1) (pv 5) (fun _ _ => rfl))) (pa_cons (pv 2) pa_nil))))
            (pss_one (ps_ret (pe_callTy call_list_of (by rfl) B.lst (by decide +kernel) (pa_cons (pv 4) pa_nil)))) pss_nil)))))
      (pss_one (ps_ret pe_non))), ?_⟩
    refine ⟨_, rfl, _, rfl, _, rfl, L, R, S, rs, ss, rfl, hL, hR, ho, h12, hS, hs, s12, fun H1 s1 => ?_⟩
    obtain ⟨ts, hRt, hRp⟩ := id hR
    have hrl : ∀ ρ ∈ rs, RlOk ρ := fun ρ hρ => (ho ρ hρ).rl hL
    have tl : (ts.map V.ref).length = rs.length := by rw [List.length_map, paired_len hRp]
    have e1 : LamX.ExtN H H1 := .of s1
    have keepR : ∀ {H2 : Hp}, LamX.ExtN H H2 → H2 R = some (.tup (ts.map V.ref)) := fun e => e _ _ hRt (by intro _ z; cases z)
    refine ⟨_, rfl, R, _, rfl, .inr (.inl (.inl (s1 _ _ hRt))), _, _, rfl, rfl, (rs.length : Int) + 1, by rw [tl], by omega, by omega, ?_⟩
    have en : ((rs.length : Int) + 1).toNat = rs.length + 1 := by omega
    rw [en]
    refine for_it (walk_range (lo := 0) (n := rs.length + 1)) (fun i σ H2 => (∃ v3 v4 v5, σ = [some (.str (T L)), some (.ref R), some (.ref S), v3, v4, v5]) ∧ LamX.ExtN H H2 ∧ LamX.Tabs Ts H2 ∧ ∀ l', CBM.Rise rs.length 0 l' → l'.length < i → saysAll (pickR rs l') ss = false)
      ⟨⟨_, _, _, rfl⟩, e1, hT.ext s1, fun l' _ h => absurd h (Nat.not_lt_zero _)⟩ (fun _ _ _ _ _ => trivial) ?_ ?_
    · rintro i x σ H2 H3 hi ⟨⟨v3, v4, v5, rfl⟩, e2, T2, hlow⟩ ⟨rfl, rfl⟩
      have hir : i ≤ rs.length := by omega
      refine ⟨_, rfl, R, _, rfl, .inr (.inl (.inl (keepR e2))), rs.length, by rw [tl], by omega, _, rfl, i, by simp, hir, ?_⟩
      refine ⟨fun j m σ H3 => (match CB.sq rs.length i j with | some l => m = rs.length ^ i - CBM.val rs.length l + 1 | none => m = 0) ∧ (∃ v4 v5, σ = [some (.str (T L)), some (.ref R), some (.ref S), some (.int (i : Nat)), v4, v5]) ∧ LamX.ExtN H H3 ∧ LamX.Tabs Ts H3 ∧
        ∀ l', CBM.Rise rs.length 0 l' → l'.length = i → (∀ l, CB.sq rs.length i j = some l → CBM.lt l' l → saysAll (pickR rs l') ss = false) ∧ (CB.sq rs.length i j = none → saysAll (pickR rs l') ss = false), ⟨_, rfl, ⟨v4, v5, by simp⟩, e2, T2, fun l' hl' el => ⟨fun l hl hlt => ?_, fun z => nomatch z⟩⟩, fun j m σ H3 hW => ?_⟩
      · cases hl
        have h0 := CBM.not_lt_range (k := i) (b := 0) hl' el
        rw [show (List.range i).map (0 + ·) = List.range i by simp] at h0
        exact absurd hlt h0
      · obtain ⟨hm, ⟨v4, v5, rfl⟩, e3, T3, hno⟩ := hW
        cases hj : CB.sq rs.length i j with
        | none =>
          refine .inl ⟨hj, ⟨⟨_, _, _, rfl⟩, e3, T3, fun l' hl' hlt => ?_⟩⟩
          rcases Nat.lt_or_ge l'.length i with c | c
          · exact hlow l' hl' c
          · exact (hno l' hl' (by omega)).2 hj
        | some l =>
          obtain ⟨hRl, hll⟩ := CB.sq_rise hir hj
          rw [hj] at hm
          have hm : m = rs.length ^ i - CBM.val rs.length l + 1 := hm
          refine .inr ⟨⟨l, hj⟩, fun σ H4 => (∃ v4 v5, σ = [some (.str (T L)), some (.ref R), some (.ref S), some (.int (i : Nat)), v4, v5]) ∧ LamX.ExtN H H4 ∧ LamX.Tabs Ts H4 ∧ saysAll (pickR rs l) ss = false, fun σ H4 ⟨hσ, e4, T4, hsay⟩ => ?_, fun x H4 hy => ?_⟩
          · cases hn : CB.sq rs.length i (j + 1) with
            | none =>
              refine ⟨0, by omega, ?_⟩
              show (match CB.sq rs.length i (j + 1) with | some l => _ | none => _) ∧ _
              rw [hn]
              refine ⟨rfl, hσ, e4, T4, fun l' hl' el => ⟨(fun l2 z => nomatch z), fun _ => ?_⟩⟩
              have hnx : CBM.nxt rs.length l = none := by
                unfold CB.sq at hn
                rw [hj] at hn
                exact hn
              rcases CBM.nxt_none hnx hRl hl' (by omega) with rfl | c
              · exact hsay
              · exact (hno l' hl' el).1 l hj c
            | some l2 =>
              have hnx : CBM.nxt rs.length l = some l2 := by
                unfold CB.sq at hn
                rw [hj] at hn
                exact hn
              obtain ⟨hR2, hl2, hlt2, hbt⟩ := CBM.nxt_some hnx hRl
              refine ⟨rs.length ^ i - CBM.val rs.length l2 + 1, ?_, ?_⟩
              · have v1 := CBM.lt_val hRl hR2 hl2.symm hlt2
                have v2 := CBM.val_lt hR2
                rw [hl2, hll] at v2
                omega
              · show (match CB.sq rs.length i (j + 1) with | some l => _ | none => _) ∧ _
                rw [hn]
                refine ⟨rfl, hσ, e4, T4, fun l' hl' el => ⟨fun l3 z hlt => ?_, fun z => nomatch z⟩⟩
                cases z
                rcases hbt l' hl' (by omega) hlt with rfl | c
                · exact hsay
                · exact (hno l' hl' el).1 l hj c
          · obtain ⟨Tn, l1, rfl, hTn, rfl, hl1⟩ := hy
            rw [hj] at hl1
            cases hl1
            have smT := same_new hTn (.tup (CB.natV l))
            have e4 := e3.trans (LamX.ExtN.of smT)
            have hkl : ∀ k ∈ l, k < rs.length := rise_mem hRl
            refine ⟨_, rfl, Tn, rfl, ⟨_, .inl (.inl upd_same)⟩, fun D hD => ?_⟩
            have nTD : Tn ≠ D := fun z => by rw [← z, upd_same] at hD; cases hD
            refine lc_it (walk_tup (xs := CB.natV l)) (fun t H5 => H5 D = some (.lst (((l.take t).map fun k => ts.getD k 0).map V.ref)) ∧ Same (upd H3 Tn (.tup (CB.natV l))) H5) ?_ (fun t H5 _ h => .inl (.inl (h.2 _ _ upd_same))) ?_ ?_
            · exact ⟨upd_same, same_new hD _⟩
            · rintro t x H5 H6 ht ⟨d1, d2⟩ ⟨rfl, hx⟩
              have hx : (l.map fun k => V.int (k : Nat))[t]? = some x := hx
              rw [List.getElem?_map] at hx
              obtain ⟨k, hk, rfl⟩ := Option.map_eq_some_iff.mp hx
              have hkl2 := hkl k (List.mem_of_getElem? hk)
              have htl : t < l.length := (List.getElem?_eq_some_iff.mp hk).1
              obtain ⟨a, ha, hat⟩ := paired_at' hRp (List.getElem?_eq_getElem hkl2)
              refine ⟨rfl, ?_⟩
              refine ⟨_, rfl, _, rfl, R, _, (k : Int), .ref a, rfl, rfl, .inl (.inl (d2 _ _ (keepR e4))), atI_nat (by rw [List.getElem?_map, ha]; rfl), _, d1, ?_, ?_, ?_⟩
              · rw [List.length_map, List.length_map, List.length_take]
                have := rise_len hRl
                exact small1000 (by omega)
              · rw [upd_same, List.take_add_one, hk]
                simp only [Option.toList_some, List.map_append, List.map_cons, List.map_nil, List.getD_eq_getElem?_getD, ha, Option.getD_some]
              · exact fun b u qb => by
                  rw [upd_ne (ne_of_none qb hD)]
                  exact d2 b u qb
            · rintro H5 ⟨d1, d2⟩
              have nl : (CB.natV l).length = l.length := by unfold CB.natV; rw [List.length_map]
              rw [nl, List.take_length] at d1
              have e5 := e4.trans (LamX.ExtN.of d2)
              refine ⟨_, rfl, D, S, pickR rs l, ss, rfl, ⟨_, d1, paired_mono (fun t ρ h => e5 _ _ h (by intro _ z; cases z)) (pick_paired hRp hkl)⟩, pick_ok hkl hrl, hS.extN e5, fun e he => by have := (hs e he).w8; omega, (T3.ext smT).ext d2, fun H6 e6 T6 => ?_⟩
              refine ⟨_, rfl, ite2 (fun c => ?_) (fun c => ?_)⟩
              · refine ⟨_, rfl, Tn, _, rfl, .inr (.inl (.inl (e6 _ _ (d2 _ _ upd_same) (by intro _ z; cases z)))), fun D2 hD2 => ?_⟩
                have sD2 := same_new hD2 (.lst (CB.natV l))
                have hH : LamX.ExtN H H6 := e5.trans e6
                refine q (some l) _ _ (hH.trans (LamX.ExtN.of sD2)) (T6.ext sD2) ⟨hRl, c, fun l' hl' hlt => hlow l' hl' (by omega), fun l' hl' el hlt => (hno l' hl' (by omega)).1 l hj hlt⟩ ⟨D2, rfl, ?_, upd_same⟩
                intro o hz
                by_cases ht : ∃ ps, o = .tbl ps
                · exact ht
                · exact absurd ((hH _ _ hz (fun ps z => ht ⟨ps, z⟩)).symm.trans hD2) (fun z => nomatch z)
              · exact ⟨⟨_, _, rfl⟩, e5.trans e6, T6, Bool.eq_false_iff.mpr c⟩
    · rintro σ H2 ⟨⟨v3, v4, v5, rfl⟩, e2, T2, hall⟩
      exact q none _ H2 e2 T2 (fun l' hl' => hall l' hl' (by have := rise_len hl'; omega)) rfl
end
end Say
namespace Say
open PySem PySem.Spec PyProof.Rows L2
theorem rise_iff {n : Nat} : ∀ {l : List Nat} {lo : Nat}, CBM.Rise n lo l ↔ l.Pairwise (· < ·) ∧ ∀ k ∈ l, lo ≤ k ∧ k < n
  | [], lo => ⟨fun _ => ⟨.nil, fun k hk => by cases hk⟩, fun _ => trivial⟩
  | a :: t, lo => by
    constructor
    · rintro ⟨h1, h2, h3⟩
      obtain ⟨p1, p2⟩ := rise_iff.mp h3
      refine ⟨.cons (fun k hk => (p2 k hk).1) p1, fun k hk => ?_⟩
      rcases List.mem_cons.mp hk with rfl | hk
      · exact ⟨h1, h2⟩
      · have := p2 k hk
        omega
    · rintro ⟨p1, p2⟩
      cases p1 with
      | cons q1 q2 =>
        have h := p2 a List.mem_cons_self
        exact ⟨h.1, h.2, rise_iff.mpr ⟨q2, fun k hk => ⟨q1 k hk, (p2 k (List.mem_cons_of_mem _ hk)).2⟩⟩⟩
theorem rise_full {n : Nat} : ∀ {l : List Nat} {lo : Nat}, CBM.Rise n lo l → lo + l.length = n → l = (List.range l.length).map (lo + ·)
  | [], lo, _, _ => rfl
  | a :: t, lo, h, e => by
    have h1 : a + (a :: t).length ≤ n := CBM.Rise.le (lo := a) (l := a :: t) ⟨Nat.le_refl _, h.2.1, h.2.2⟩ (by simp)
    have h0 := h.1
    have ea : a = lo := by omega
    subst ea
    rw [List.length_cons, CBM.range_map, ← rise_full h.2.2 (by rw [List.length_cons] at e; omega)]
theorem rise_range0 (n : Nat) : CBM.Rise n 0 (List.range n) := by
  have := CBM.rise_range (n := n) (k := n) (b := 0) (by omega)
  rwa [show (List.range n).map (0 + ·) = List.range n by simp] at this
theorem pick_all (rs : List Rule) : pickR rs (List.range rs.length) = rs := by
  unfold pickR
  apply List.ext_getElem
  · simp
  · intro i h1 h2
    rw [List.getElem_map, List.getElem_range]
    exact ruleAt_eq (List.getElem?_eq_getElem h2)
/-- picking among what was picked -/
theorem pick_pick {rs : List Rule} {l l2 : List Nat} (h : ∀ k ∈ l2, k < l.length) : pickR (pickR rs l) l2 = pickR rs (l2.map fun k => l.getD k 0) := by
  unfold pickR
  rw [List.map_map]
  apply List.map_congr_left
  intro k hk
  have hl := h k hk
  refine ruleAt_eq ?_
  rw [List.getElem?_map, List.getElem?_eq_getElem hl]
  simp [List.getD_eq_getElem?_getD, List.getElem?_eq_getElem hl]
theorem rise_comp {n : Nat} {l l2 : List Nat} (h : CBM.Rise n 0 l) (h2 : CBM.Rise l.length 0 l2) : CBM.Rise n 0 (l2.map fun k => l.getD k 0) := by
  obtain ⟨p1, p2⟩ := rise_iff.mp h
  obtain ⟨q1, q2⟩ := rise_iff.mp h2
  refine rise_iff.mpr ⟨List.pairwise_map.mpr (q1.imp_of_mem fun {i j} hi hj hij => ?_), fun k hk => ?_⟩
  · have hi' := (q2 i hi).2
    have hj' := (q2 j hj).2
    rw [List.getD_eq_getElem?_getD, List.getD_eq_getElem?_getD, List.getElem?_eq_getElem hi', List.getElem?_eq_getElem hj']
    exact List.pairwise_iff_getElem.mp p1 i j hi' hj' hij
  · obtain ⟨i, hi, rfl⟩ := List.mem_map.mp hk
    have hi' := (q2 i hi).2
    rw [List.getD_eq_getElem?_getD, List.getElem?_eq_getElem hi']
    exact p2 _ (List.getElem_mem hi')
/-- rules that say all: least tells some -/
theorem least_some {rs : List Rule} {ss : List Exc} {o : Option (List Nat)} (h : saysAll rs ss = true) (ho : LeastV rs ss o) : ∃ l, o = some l := by
  cases o with
  | some l => exact ⟨l, rfl⟩
  | none =>
    have := ho _ (rise_range0 rs.length)
    rw [pick_all, h] at this
    cases this
/-- of the fewest all are wanted -/
theorem least_again {rs : List Rule} {ss : List Exc} {l : List Nat} {o : Option (List Nat)} (hl : LeastV rs ss (some l)) (ho : LeastV (pickR rs l) ss o) : o = some (List.range l.length) := by
  obtain ⟨h1, h2, h3, _⟩ := hl
  obtain ⟨l2, rfl⟩ := least_some h2 ho
  obtain ⟨g1, g2, _, _⟩ := ho
  have ln : (pickR rs l).length = l.length := by unfold pickR; rw [List.length_map]
  rw [ln] at g1
  have gm := fun k hk => (rise_iff.mp g1).2 k hk
  rw [pick_pick fun k hk => (gm k hk).2] at g2
  have le := rise_len g1
  rcases Nat.lt_or_ge l2.length l.length with c | c
  · have := h3 _ (rise_comp h1 g1) (by rw [List.length_map]; exact c)
    rw [this] at g2
    cases g2
  · have e : l2.length = l.length := by omega
    have := rise_full g1 (by omega)
    rw [show (List.range l2.length).map (0 + ·) = List.range l2.length by simp, e] at this
    rw [this]
theorem rise_sub {n : Nat} {l l2 : List Nat} (h : CBM.Rise n 0 l) (s : l2.Sublist l) : CBM.Rise n 0 l2 := by
  obtain ⟨p1, p2⟩ := rise_iff.mp h
  exact rise_iff.mpr ⟨p1.sublist s, fun k hk => p2 k (s.subset hk)⟩
/-- none of the fewest can be left out -/
theorem least_out {rs : List Rule} {ss : List Exc} {l : List Nat} {k : Nat} (hl : LeastV rs ss (some l)) (hk : k < l.length) : saysAll ((pickR rs l).take k ++ (pickR rs l).drop (k + 1)) ss = false := by
  obtain ⟨h1, _, h3, _⟩ := hl
  have e : (pickR rs l).take k ++ (pickR rs l).drop (k + 1) = pickR rs (l.eraseIdx k) := by
    unfold pickR
    rw [List.eraseIdx_eq_take_drop_succ, List.map_append, List.map_take, List.map_drop]
  rw [e]
  exact h3 _ (rise_sub h1 (List.eraseIdx_sublist ..)) (by rw [List.length_eraseIdx]; split <;> omega)
/-- a word said two ways has none -/
theorem least_two {rs : List Rule} {ss : List Exc} {e1 e2 : Exc} {o : Option (List Nat)} (h1 : e1 ∈ ss) (h2 : e2 ∈ ss) (hw : e1.1 = e2.1) (hn : e1.2 ≠ e2.2) (ho : LeastV rs ss o) : o = none := by
  cases o with
  | none => rfl
  | some l =>
    obtain ⟨_, g, _⟩ := ho
    have a1 := of_decide_eq_true (List.all_eq_true.mp g e1 h1)
    have a2 := of_decide_eq_true (List.all_eq_true.mp g e2 h2)
    rw [hw, a2] at a1
    exact absurd (Option.some.inj a1).symm hn
theorem blam_nil {rs : List Rule} {ss : List Exc} : blamM rs ss ss.length = [] ↔ saysAll rs ss = true := by
  unfold blamM saysAll
  rw [List.filter_eq_nil_iff, List.all_eq_true]
  constructor
  · intro h e he
    obtain ⟨i, hi⟩ := List.mem_iff_getElem?.mp he
    have := h i (List.mem_range.mpr (List.getElem?_eq_some_iff.mp hi).1)
    rw [hi] at this
    simpa using this
  · intro h i hi
    have hi := List.mem_range.mp hi
    rw [List.getElem?_eq_getElem hi]
    have := h _ (List.getElem_mem hi)
    simpa using this
end Say
namespace PySem
namespace UnsX
open PySem.W PySem.Calls PyProof.Rows PySem.HandSPX
/-! ### the text of Unsaid.__init__ -/
abbrev sUns : Stmt := L2.inClass (Say.topS 7) 0
abbrev iA : Arguments := L2.defArgs sUns
abbrev iB : List Stmt := L2.defBody sUns
abbrev iS : Scope := L2.defScope sUns
def eF : Expr := match iB with
  | .Expr (.Call _ (e :: _) _ _) _ :: _ => e
  | _ => .Constant .none 0 ⟨0, 0, 0, 0⟩
theorem eF_eq : ∃ c1 c2 c3 c4, eF = .JoinedStr [.Constant (.str "no rule fits at place ") 0 c1, .FormattedValue (.Name "place" c2) (-1) none c3] c4 := ⟨_, _, _, _, rfl⟩
theorem iS_cell : ∀ y ∈ iS.names, y.2 ≠ .cell := by decide +kernel
/-- what the written part says of Unsaid, at C, and of its __init__, at fI -/
structure UnsTxt (P : Program) (K : Frag) (mg : Str → Option Value) (C fI : Addr) : Prop where
  gC : mg "Unsaid" = some (.ref C)
  sB : mg "super" = none
  cls : ∃ nm q N bs bm sn sub ab col dd k0 k1 k2 k3 k5, K.lookup C = some (excClassObj nm q C N bs bm true sn sub ab col dd k0 k1 k2 k3 k5 "ValueError.__new__") ∧ refsVE bm = true
  sa : findIn K (.ref C) "__setattr__" = some (some (.builtin "object.__setattr__"))
  noP : findIn K (.ref C) "place" = some none
  iC : findIn K (.ref C) "__init__" = some (some (.ref fI))
  tC : typeIn K (.ref fI) = some (.type "function")
  kC : keepIn K (.ref C) = true
  exC : subIn K (.ref C) (.type "BaseException") = some true
  tyC : typeIn K (.ref C) = some (.type "type")
  sup : ks_superIn K C C "__init__" = some (some (.builtin "ValueError.__init__"))
  subV : subIn K (.ref C) (.type "ValueError") = some true
  any : nsIn K cStatics "thirdparty.any" = some none
  main : (P.main.scope.names.lookup ("super" : Str)).isSome = false
  fn : ∃ (oc : Value) (od : Option Addr) (doc pm : Value) (an : Option Addr) (cda cc : Addr) (ct : Value) (osl : Array (Option Value)),
    K.lookup fI = some ⟨oc, od, .func (ksFn "__init__" "Unsaid.__init__" iA iB iS .none .none doc pm an (.ref cda) ct cc), osl⟩ ∧ codeIn K (.ref cda) "Unsaid.__init__" = true ∧
    (∃ cl cld csl, K.lookup cc = some ⟨cl, cld, .cell (some (.ref C)), csl⟩) ∧ ∃ ccl cdd vs ccs file tf, K.lookup cda = some ⟨ccl, cdd, .fields vs, ccs⟩ ∧ vs[2]? = some (.str file tf) ∧ ((P.main.file : Str) == file) = true
/-- what __init__ leaves of a fresh exception at x -/
structure InitEnd (h h' : Heap) (x C dx : Addr) (v : Value) : Prop where
  keep : ∀ b o, b ≠ x → h.get? b = some o → h'.get? b = some o
  obj : ∃ t1 : Addr, h'.get? x = some { cls := .ref C, dict := some dx, data := .fields #[.ref t1, .none, .none, .none, .bool false, .none] }
  dbig : h.objs.size ≤ dx
  dne : dx ≠ x
  ns : h'.Ns1 dx (fun y => if y = "place" then some v else none)
section
variable {prog : Program} {w : World} {A : Around} {E : Value → Shared → Prop} {R : Result → Shared → Prop} {s : Shared} {K : Frag} {mg : Str → Option Value} {C fI : Addr} {base : Heap}
theorem ld {M : Model} {s : Shared} {env : Env} {m : Str → Option Value} {x : Str} {pos : Pos} {v : Value} {Q : Value → Shared → Prop} {A : Around} {E : Value → Shared → Prop} (hn : s.heap.Ns env.locals m) (hv : m x = some v) (h : Q v s)
    (hk : env.scope.kind = .function) (hl : env.kindOf x = some .local) (hd : (x == ("__debug__" : Str)) = false := by decide) :
    wpAny M A (eval (.Name x pos) env) Q E s := wpAny_Name (wpAny_loadName_local hk hl hn hv h) hd
theorem uns_init (T : UnsTxt prog K mg C fI) {x t0 : Addr} {i : Int} {ti : Tok} (B : L2.Mod K mg base) (kb : ∀ b o, base.get? b = some o → s.heap.get? b = some o) (hx : s.heap.get? x = some (excO C t0)) (hnx : base.get? x = none) (hi : i.natAbs.log2 < 1920) (hi2 : (toString i : Str).length ≤ 1000) (hroom : A.depth < recursionLimit)
    (hq : ∀ h' tk dx, InitEnd s.heap h' x C dx (.int i ti) → R (.ok (.ret .none)) { s with heap := h', toks := tk }) :
    codeAny (model prog w) A (.call (.ref fI) ⟨[.ref x, .int i ti], []⟩) R s := by
  obtain ⟨oc, od, doc, pm, an, cda, cc, ct, osl, ho, hcd, ⟨cl, cld, csl, hcell⟩, ccl, cdd, vs, ccs, file, tf, hcode, hvs, hfile⟩ := T.fn
  obtain ⟨nm, q, N, bs, bm, sn, sub, ab, col, dd, k0, k1', k2, k3, k5, hC, hbm⟩ := T.cls
  obtain ⟨hp, g, dr, tk0, os⟩ := s
  have hcl : clsIn K C = some { name := nm, bases := bs, mro := .ref C :: bm, ns := N, qualname := q, hasDict := true, slotNames := sn, subclasses := sub, abstract := ab, collection := col, hasDel := false } := by unfold clsIn; rw [hC] <;> rfl
  have X : K.In hp := B.kin.keeps kb
  have nl : hp.NoLimit := B.nolimit.keeps kb
  refine ks_codeAny_call_defAt (fd := ksFn "__init__" "Unsaid.__init__" iA iB iS .none .none doc pm an (.ref cda) ct cc) (body := iB) (binds := [("self", .ref x), ("place", .int i ti)])
    hroom (X _ _ ho) rfl nl (codeRec_of X hcd) rfl (BindsTo.of_eq (by first | rfl | with_unfolding_all rfl)) iS_cell (fun y hy => ?_) (fun h₀ hns k => ?_)
  · have e : y = (PySem.Str.ofString "self", Value.ref x) ∨ y = (PySem.Str.ofString "place", Value.int i ti) := by simpa using hy
    rcases e with rfl | rfl
    · exact (by decide +kernel : iS.names.lookup (PySem.Str.ofString "self") = some .local)
    · exact (by decide +kernel : iS.names.lookup (PySem.Str.ofString "place") = some .local)
  generalize hL : (Shared.heap ⟨hp, g, dr, tk0, os⟩).objs.size = L at hns ⊢
  have henv : callEnv (ksFn "__init__" "Unsaid.__init__" iA iB iS .none .none doc pm an (.ref cda) ct cc) L fI = ksEnv "Unsaid.__init__" iS L fI (.ref cda) cc := rfl
  rw [henv]
  have X0 : K.In h₀ := X.keeps k
  have hx0 := k _ _ hx
  have kb0 : ∀ b o, base.get? b = some o → h₀.get? b = some o := fun b o e => k b o (kb b o e)
  obtain ⟨oC, hC0, hC1⟩ : ∃ oC, h₀.get? C = some oC ∧ oC.data = .cls { name := nm, bases := bs, mro := .ref C :: bm, ns := N, qualname := q, hasDict := true, slotNames := sn, subclasses := sub, abstract := ab, collection := col, hasDel := false } := ⟨_, X0 _ _ hC, rfl⟩
  have I0 : InstAt h₀ x (excO C t0) C none := ⟨hx0, rfl, rfl, trivial⟩
  obtain ⟨mb, hb1, hb2⟩ := B.blt
  have hxC : x ≠ C := fun z => by
    rw [z, hC0] at hx0
    cases hx0
    cases hC1
  have hsub : mroIn K C (.ref C) = some true := by
    unfold mroIn
    rw [hcl]
    simp
  have nS : iS.names.lookup (PySem.Str.ofString "super") = some .globalImplicit := by decide +kernel
  have nC : iS.names.lookup (PySem.Str.ofString "__class__") = some .free := by decide +kernel
  have nx : iS.names.lookup (PySem.Str.ofString "self") = some .local := by decide +kernel
  have np : iS.names.lookup (PySem.Str.ofString "place") = some .local := by decide +kernel
  have hLx : L ≠ x := by
    rw [← hL]
    exact Nat.ne_of_gt (Heap.lt_size hx)
  refine ks_wpAt_execs_cons (ks_wpAt_Expr_any (ks_wpAt_MethodCall (ks_wpAt_super_base nS nC (by decide +kernel) rfl (X0 _ _ ho) rfl rfl rfl (X0 _ _ hcode) rfl hvs hfile T.main ?_)))
  refine ks_loadName_global rfl nS (loadGlobal_builtin (B.glob.keeps kb0) T.sB (hb1.keeps kb0) ((hb2 _ (by decide +kernel)).trans (by decide +kernel)) ⟨rfl, ?_⟩)
  refine wpAny_loadName_free rfl nC rfl ⟨_, X0 _ _ hcell, rfl⟩ ?_
  refine wpAny_loadName_local rfl nx hns rfl ?_
  refine ks_wpAny_isType_cls hC0 hC1 ⟨rfl, ?_⟩
  refine ks_wpAny_call_super hC0 hC1 hx0 rfl (fun c e => by cases e) (looks_mroIn X0 hsub) (fun h1 e1 k1 => ?_)
  have X1 : K.In h1 := X0.keeps k1
  have hx1 := k1 _ _ hx0
  have I1 : InstAt h1 x (excO C t0) C none := ⟨hx1, rfl, rfl, trivial⟩
  have hf : alongIn K "__init__" (((Value.ref C :: bm).dropWhile (· != .ref C)).drop 1) = some (some (.builtin "ValueError.__init__")) := by
    have := T.sup
    unfold ks_superIn at this
    rw [hcl] at this
    exact this
  refine kxs_getMethod kxs_ValueError e1 (looks_opaque X1 T.any) (l₀ := .ref C :: bm) (fun A Q E s k q => wpAny_bind ((looks_clsIn X1 hcl) A _ E s k (wpAny_pure q))) rfl X1 hf (I1.type.andThen (looks_subIn X1 T.subV)) hxC (by decide +kernel) ?_
  have hu : (h1.push (kxs_mw "ValueError.__init__" x)).get? h1.objs.size = some (kxs_mw "ValueError.__init__" x) := Heap.get?_push_size _ rfl
  have k2' : ∀ b o, h₀.get? b = some o → (h1.push (kxs_mw "ValueError.__init__" x)).get? b = some o := fun b o e => Heap.get?_push_of_some _ (k1 b o e)
  generalize h1.push (kxs_mw "ValueError.__init__" x) = h2 at hu k2' ⊢
  generalize h1.objs.size = u at hu ⊢
  have X2 : K.In h2 := X0.keeps k2'
  have hx2 := k2' _ _ hx0
  have hns2 := hns.keeps k2'
  -- the text that is handed on
  show wpAny _ _ (callWith _ (.ref u) [] _ []) _ _ _
  refine kxs_callWith (i := "ValueError.__init__") (x := x) rfl (evalArgs_plain ?_)
  show wpAny _ _ (spliced ((false, eval eF (ksEnv "Unsaid.__init__" iS L fI (.ref cda) cc)) :: [])) _ _ _
  obtain ⟨c1, c2, c3, c4, eFe⟩ := eF_eq
  rw [eFe]
  refine Calls.spliced_cons (wpAny_JoinedStr ?_)
  refine wpAny_Constant_str ⟨_, _, rfl, by decide +kernel, ?_⟩
  refine wpAny_FormattedValue_plain (ld hns2 rfl ?_ rfl np) 
  have hlen : (Str.empty ++ PySem.Str.ofString "no rule fits at place " ++ (toString i : Str)).length ≤ sizeLine := by
    rw [TL.len_tl, TL.tl_append, List.length_append, ← TL.len_tl, ← TL.len_tl, sizeLine_eq]
    have : (Str.empty ++ PySem.Str.ofString "no rule fits at place ").length = 22 := by decide +kernel
    omega
  refine wpAny_formatField_int hi ⟨_, _, rfl, hlen, ?_⟩
  refine ⟨hlen, ?_⟩
  refine Calls.spliced_nil ⟨hu, ?_⟩
  refine wpAny_call (codeAny_of_tree ?_)
  show wpAny _ _ (callAny (.ref u) ⟨_, []⟩) _ _ _
  simp only [callAny]
  refine wpAny_bind (wpAny_load hu ?_)
  simp only [kxs_mw, show (Value.type "method-wrapper" == Value.type "method" || Value.type "method-wrapper" == Value.type "builtin_function_or_method" || Value.type "method-wrapper" == Value.type "method-wrapper") = true by decide, if_true]
  refine KFB.if_so (by decide) ?_
  refine wpAny_bind (check_bound_init F.excBase_ValueError.toExcCallFacts (X2 _ _ hC) hx2 rfl ?_)
  refine wpAny_bind (wpAny_pure (wpAny_pure ?_))
  refine ⟨plainId_quiet F.excBase_ValueError.init.plain _, codeAny_builtin F.excBase_ValueError.initEntry ?_⟩
  refine exc_init_tree (cls := .ref C) (t0 := t0) (dv := none) (c2 := .none) (c3 := .none) (b4 := .bool false) hx2 (by rw [sizeLine_eq]; show 1 ≤ 16777216; decide) fun h3 k3 e3 _ => ?_
  have k3' : ∀ b o, b ≠ x → h₀.get? b = some o → h3.get? b = some o := fun b o hb e => k3 b o hb (k2' b o e)
  have X3 : K.In h3 := fun b o e => k3' b o (fun z => by
    have := B.kin b o e
    rw [z, hnx] at this
    cases this) (X0 b o e)
  have hns3 : h3.Ns L (fun y => (([("self", Value.ref x), ("place", .int i ti)] : List (Str × Value)).reverse.lookup y)) := hns.at fun o e => k3' L o hLx e
  show wpAt _ _ _ (execs (_ :: []) _) _ _ _
  refine ks_wpAt_execs_cons (ks_wpAt_Assign_Attr (wpAt_of_wpAny (ld hns3 rfl (ld hns3 rfl ?_ rfl nx) rfl np)))
  refine set_plain X3 (ox := excO C h2.objs.size) (od := none) ⟨e3, rfl, rfl, trivial⟩ T.sa ?_
  refine exc_osa X3 e3 hcl (show refsVE (.ref C :: bm) = true from hbm) rfl T.noP (fun h4 tk4 dx k4 dn dne hx4 hn4 => ?_)
  show wpAt _ _ _ (execs [] _) _ _ _
  refine wpAt_of_wpAny (wpAny_execs_nil ?_)
  have big : hp.objs.size ≤ dx := by
    have h1 : L < h3.objs.size := hns3.lt
    have h2 : hp.objs.size = L := hL
    exact Nat.le_trans (Nat.le_of_eq h2) (Nat.le_trans (Nat.le_of_lt h1) dn)
  exact hq h4 _ dx ⟨fun b o hb e => k4 b o hb (k3' b o hb (k b o e)), ⟨_, hx4⟩, big, dne, hn4⟩
end
end UnsX
end PySem
namespace PySem
namespace UnsX
open PySem.W PySem.Calls PyProof.Rows PySem.HandSPX
/-- a made Unsaid -/
structure OwnMade (h h' : Heap) (e C d : Addr) (v : Value) : Prop where
  keep : ∀ b o, h.get? b = some o → h'.get? b = some o
  new : h.objs.size ≤ e
  obj : ∃ oe vs, h'.get? e = some oe ∧ oe.cls = .ref C ∧ oe.dict = some d ∧ oe.data = .fields vs ∧ vs[1]? = some .none
  dbig : h.objs.size ≤ d
  dne : d ≠ e
  ns : h'.Ns1 d (fun y => if y = "place" then some v else none)
theorem one_size (v : Value) : [v].length ≤ sizeLine := by
  rw [sizeLine_eq]
  exact (by decide : 1 ≤ 16777216)
section
variable {prog : Program} {w : World} {A : Around} {E : Value → Shared → Prop} {R : Result → Shared → Prop} {s : Shared} {K : Frag} {mg : Str → Option Value} {C fI : Addr} {base : Heap}
theorem uns_made (T : UnsTxt prog K mg C fI) {i : Int} {ti : Tok} (B : L2.Mod K mg base) (kb : ∀ b o, base.get? b = some o → s.heap.get? b = some o) (hi : i.natAbs.log2 < 1920) (hi2 : (toString i : Str).length ≤ 1000) (hroom : A.depth + 1 < recursionLimit)
    (hq : ∀ h' tk e d, OwnMade s.heap h' e C d (.int i ti) → R (.ok (.ret (.ref e))) { s with heap := h', toks := tk }) :
    codeAny (model prog w) A (.call (.ref C) ⟨[.int i ti], []⟩) R s := by
  obtain ⟨nm, q, N, bs, bm, sn, sub, ab, col, dd, k0, k1, k2, k3, k5, hC, hbm⟩ := T.cls
  have X : K.In s.heap := B.kin.keeps kb
  obtain ⟨hp, g, dr, tk, os⟩ := s
  have k : ∀ b o, hp.get? b = some o → ((hp.push (kdv_tup [.int i ti])).push (excO C hp.objs.size)).get? b = some o := fun b o e => Heap.get?_push_of_some _ (Heap.get?_push_of_some _ e)
  have hget : ((hp.push (kdv_tup [.int i ti])).push (excO C hp.objs.size)).get? (hp.objs.size + 1) = some (excO C hp.objs.size) := by heap_get
  have hnx : base.get? (hp.objs.size + 1) = none := by
    cases e : base.get? (hp.objs.size + 1) with
    | none => rfl
    | some o =>
      have z : hp.get? (hp.objs.size + 1) = some o := kb _ _ e
      exact absurd (Nat.lt_of_succ_lt (Heap.lt_size z)) (Nat.lt_irrefl _)
  refine call_own F.excBase_ValueError (fun X => refsVE_contains X bm hbm) (X _ _ hC) (looks_findIn X T.iC) (fun self => bind_fn X self T.tC) (one_size (.int i ti)) ?_
  refine uns_init (s := ⟨(hp.push (kdv_tup [.int i ti])).push (excO C hp.objs.size), g, dr, tk, os⟩) T B (fun b o e => k b o (kb b o e)) hget hnx hi hi2 ?_ fun h' tk' dx ⟨k', ⟨t1, hx⟩, dn, dne, hns⟩ => ?_
  · show A.depth + 1 < recursionLimit
    exact hroom
  · have old : ∀ b o, hp.get? b = some o → h'.get? b = some o := fun b o e => k' b o (Nat.ne_of_lt (Nat.lt_succ_of_lt (Heap.lt_size e))) (k b o e)
    have z : hp.objs.size + 1 + 1 ≤ dx := by
      first
        | (simpa only [Heap.size_push] using dn)
        | exact dn
        | (have q := dn; rw [Heap.size_push, Heap.size_push] at q; exact q)
    exact ⟨rfl, hq h' tk' (hp.objs.size + 1) dx ⟨old, Nat.le_succ _, ⟨_, _, hx, rfl, rfl, rfl, rfl⟩, Nat.le_trans (Nat.le_trans (Nat.le_succ _) (Nat.le_succ _)) z, dne, hns⟩⟩
end
end UnsX
end PySem
namespace Say
open PySem PySem.Spec PyProof.Rows L2
theorem relO_pl {v : V} {v' : Value} (r : RelV v v') (f : Str) : RelO (List.lookup f [(("place" : Str), v)]) (if f = "place" then some v' else none) := by
  by_cases hw : f = "place"
  · subst hw
    rw [if_pos rfl]
    have q : List.lookup ("place" : Str) [(("place" : Str), v)] = some v := by simp [List.lookup]
    rw [q]
    exact r
  · rw [if_neg hw]
    have qw : (f == ("place" : Str)) = false := by simpa using hw
    have q2 : List.lookup f [(("place" : Str), v)] = none := by simp [List.lookup, qw]
    rw [q2]
    trivial
section
variable {X : Cx} {C fI : Addr}
/-- Unsaid(e) -/
def tMkUns (C : Addr) (ta : TA) : L2.St → Hp → XK → Prop := fun σ H Q => ta σ H fun vs H1 => ∃ p : Nat, vs = [.int p] ∧ p ≤ 100 ∧ ∀ d, H1 d = none → Q (.ref C) (some d) (upd H1 d (.xd [(("place" : Str), .int p)]))
theorem small_num {p : Nat} (h : p ≤ 100) : (p : Int).natAbs.log2 < 1920 ∧ (toString (p : Int) : Str).length ≤ 1000 := by
  have key : ∀ q : Fin 101, ((q.1 : Int)).natAbs.log2 < 1920 ∧ (toString (q.1 : Int) : Str).length ≤ 1000 := by decide +kernel
  exact key ⟨p, by omega⟩
theorem pmk_uns {a : Expr} {ta : TA} {p pos : Pos} {k : Nat} (T : PySem.UnsX.UnsTxt X.prog X.K X.mg C fI) (hr : Room k X.A) (ha : PA X [a] ta) (hg : Gl X "Unsaid" := by rfl)
    (he : starEach (a :: []) X.env = (false, eval a X.env) :: starEach [] X.env := by rfl) (hpl : (backTo pos (starEach [] X.env)).any (·.1) = false := by rfl) :
    PMk X (.Call (.Name "Unsaid" p) [a] [] pos) (tMkUns C ta) := by
  intro pins s σ H Q I h
  unfold tMkUns at h
  refine wpAny_Call_Name_kw (ld_glob I hg T.gC ?_)
  refine PySem.W.callWith_K (h₀ := X.base) I.ok.mod.kin T.kC (thn (ha.run pos pins s σ H _ I h) fun us s1 hh => ?_) he hpl
  obtain ⟨vs, H1, I1, r1, n, ev, hn, q1⟩ := hh
  subst ev
  refine ⟨I1.kIn, ?_⟩
  cases r1 with
  | cons rv rn =>
    rename_i v' us'
    cases rn
    obtain ⟨tv, rfl⟩ := rv
    show wpAny _ _ (call (.ref C) [.int n tv]) _ _ _
    have b1 := I1.mod
    have b2 := I1.bk
    obtain ⟨hp, g, dr, tk, os⟩ := s1
    refine wpAny_call (PySem.UnsX.uns_made T b1 b2 (small_num hn).1 (small_num hn).2 (by have := hr.dp; omega) fun h' tk' e d M => ?_)
    show MkP X pins σ Q (.ref e) ⟨h', g, dr, tk', os⟩
    obtain ⟨oe, fv, hoe, hc, hd, hdat, h1⟩ := M.obj
    have hns := M.ns
    obtain ⟨G', g1, g2⟩ := restrict h' fun b => decide (b ≠ e)
    have gk : ∀ b, b ≠ e → G'.get? b = h'.get? b := fun b hb => g1 b (decide_eq_true hb)
    have ge : G'.get? e = none := g2 e (by simp)
    have old : ∀ b o, hp.get? b = some o → G'.get? b = some o := fun b o q => (gk b (Nat.ne_of_lt (Nat.lt_of_lt_of_le (Heap.lt_size q) M.new))).trans (M.keep b o q)
    have ob : ObjOk X.prog X.w (upd H1 d (.xd [(("place" : Str), .int n)])) G' d (.xd [(("place" : Str), .int n)]) :=
      ⟨_, hns.at (fun o q => (gk d M.dne).trans q), fun f => relO_pl (v := .int n) ⟨tv, rfl⟩ f⟩
    have J : Inv X pins σ (upd H1 d (.xd [(("place" : Str), .int n)])) ⟨G', g, dr, tk', os⟩ := I1.laid (t' := tk') old M.dbig ob
    refine ⟨e, oe, fv, ⟨G', g, dr, tk', os⟩, _, .ref C, some d, rfl, J, fun b o q => ?_, ge, hoe, ⟨hc, hd⟩, hdat, h1, ?_, rfl, I1.bare, raises_own T.exC T.tyC, q1 d (I1.hok.fresh M.dbig)⟩
    · by_cases hb : b = e
      · have q' : G'.get? b = some o := q
        rw [hb, ge] at q'; cases q'
      · exact (gk b hb).symm.trans q
    · rw [upd_ne (Ne.symm M.dne)]
      exact I1.hok.fresh M.new
/-- raise Unsaid(e) -/
def tRaiseUns (C : Addr) (W : WX) (ta : TA) : TS := fun _ σ H => tMkUns C ta σ H fun cls d H' => W cls d σ H'
theorem ps_raiseUns {a : Expr} {ta : TA} {W : WX} {p pos pos2 : Pos} {k : Nat} (hc : X.calm = true) (T : PySem.UnsX.UnsTxt X.prog X.K X.mg C fI) (hr : Room k X.A) (tk : Takes X W) (ha : PA X [a] ta) (hg : Gl X "Unsaid" := by rfl)
    (he : starEach (a :: []) X.env = (false, eval a X.env) :: starEach [] X.env := by rfl) (hpl : (backTo pos (starEach [] X.env)).any (·.1) = false := by rfl) :
    PS X (.Raise (some (.Call (.Name "Unsaid" p) [a] [] pos)) none pos2) (tRaiseUns C W ta) := ps_raise hc tk (pmk_uns T hr ha hg he hpl)
end
end Say
namespace Say
open PySem PySem.Spec PyProof.Rows L2
section
variable {P : Program} {w : World} {K : PySem.W.Frag} {mg : Str → Option Value} {base : Heap} {C fI : Addr}
abbrev sWd : Stmt := topS 62
theorem scWd : FnScope ["rules", "word", "steps", "stuck"] ["rules", "word"] (defScope sWd) := ⟨rfl, rfl, rfl, by decide +kernel, rfl, by decide +kernel, by decide +kernel⟩
/-- the steps, or Unsaid with the place -/
def toldW (C : Addr) (rs : List Rule) (wd : List Nat) (H : Hp) (Q : VK) (E : XK) : Prop :=
  ((W rs wd).2 = none → ∀ (D : Addr) (H' : Hp), Same H H' → H D = none → StepsAt H' D (W rs wd).1 → Q (.ref D) H') ∧
  (∀ p : Nat, (W rs wd).2 = some p → ∀ (d : Addr) (H' : Hp), Same H H' → H d = none → H' d = some (.xd [(("place" : Str), .int p)]) → E (.ref C) (some d) H')
def spWdR (C : Addr) : Sp := fun vs H Q E => ∃ (R : Addr) (rs : List Rule) (wd : List Nat), vs = [.ref R, .str (T wd)] ∧ RulesAt H R rs ∧ (∀ ρ ∈ rs, RlOk ρ) ∧ wd.length ≤ 80 ∧ toldW C rs wd H Q E
theorem ok_wdR {f : Addr} {fd : FuncData} (F : Fun K "walked" "walked" sWd f fd) (Cs : Cn mg) (U : PySem.UnsX.UnsTxt P K mg C fI) (DS : Df P w K mg base "steps_of" ["rules", "tail"] 3 spSt) : FnOk P w K mg base (L2.CX P w) 4 f fd ["rules", "word"] (spWdR C) := by
  obtain ⟨fS, fdS, GS, kS, bS, mS⟩ := DS
  obtain ⟨tE, mE⟩ := Cs.edge
  refine F.okX scWd (fun vs H Q E h => ?_) (fun cdv A outer s H vs Q E hr h => ?_)
  · obtain ⟨R, rs, wd, rfl, _⟩ := h
    rfl
  · obtain ⟨R, rs, wd, rfl, hR, ho, hw, q1, q2⟩ := h
    refine ⟨_, pss_cons (ps_asg (pe_call GS hr (by rfl) mS kS bS .nil pass0 (pa_cons (pv 0) (pa_cons (pe_op op_add_str (pe_glob (v := .str "#") rfl mE ⟨_, rfl⟩) (pv 1)) pa_nil))) (pg_tup (by rfl) (pgs_cons (pg_name (i := 2) scWd.nd rfl (.inl rfl)) (pgs_cons (pg_name (i := 3) scWd.nd rfl (.inl rfl)) pgs_nil))))
      (pss_cons (ps_if (pt_cmpR op_notN (pv 3) pe_non (nomark _)) (pss_one (ps_raiseUns rfl U hr (takes_of rfl rfl rfl rfl) (by exact (pa_cons (pv 3) pa_nil)))) pss_nil)
      (pss_one (ps_ret (pv 2)))), ?_⟩
    refine ⟨_, rfl, _, rfl, _, _, rfl, rfl, (by rw [len_hash, T_len]; exact small (by omega)), R, rs, 35 :: wd, (by rw [hash_app]; rfl), hR, ho, by simp, by simp; omega, fun t D H1 s1 hD ht hS => ?_⟩
    rw [← W_Wt] at ht hS
    cases hN : (W rs wd).2 with
    | none =>
      rw [hN] at ht
      refine ⟨t, _, rfl, .inl (.inl ht), rfl, _, _, rfl, _, _, rfl, rfl, ?_⟩
      refine ⟨_, rfl, rfl, _, rfl, iteF ?_⟩
      exact ⟨_, rfl, q1 hN D H1 s1 hD hS⟩
    | some p =>
      rw [hN] at ht
      refine ⟨t, _, rfl, .inl (.inl ht), rfl, _, _, rfl, _, _, rfl, rfl, ?_⟩
      refine ⟨_, rfl, rfl, _, rfl, iteT ?_⟩
      refine ⟨_, rfl, p, rfl, by have := W_stuck hN; omega, fun d hd => ?_⟩
      exact q2 p hN d _ (s1.trans (same_new hd _)) (s1.free hd) upd_same
end
end Say
namespace Say
open PySem PySem.Spec PyProof.Rows L2
section
variable {P : Program} {w : World} {K : PySem.W.Frag} {mg : Str → Option Value} {base : Heap}
abbrev sChW : Stmt := topS 33
theorem scChW : FnScope ["letters", "word"] ["letters", "word"] (defScope sChW) := ⟨rfl, rfl, rfl, by decide +kernel, rfl, by decide +kernel, by decide +kernel⟩
def spChW : Sp := fun vs H Q _ => ∃ (L z : List Nat), vs = [.str (T L), .str (T z)] ∧ (∀ c ∈ z, c ∈ L) ∧ z.length ≤ 12 ∧ ∀ (H' : Hp), Same H H' → Q .non H'
theorem ok_chW {f : Addr} {fd : FuncData} (F : Fun K "check_word" "check_word" sChW f fd) (cL : KI mg "LONGEST_WORD" 12) (DT : Df P w K mg base "is_text" psIsText 1 spIsText) :
    FnOk P w K mg base CX0 2 f fd ["letters", "word"] spChW := by
  obtain ⟨fT, fdT, GT, kT, bT, mT⟩ := DT
  obtain ⟨tS, mS⟩ := cL
  refine F.ok scChW (fun vs H Q E h => ?_) (fun cdv A outer s H vs Q E hr h => ?_)
  · obtain ⟨L, z, rfl, _⟩ := h
    rfl
  · obtain ⟨L, z, rfl, h1, h2, q⟩ := h
    refine ⟨_, pss_one (ps_if (pt_not (pt_val (pe_call GT hr (by rfl) mT kT bT .nil pass0 (pa_cons (pv 1) (pa_cons (pv 0) (pa_cons pe_int (pa_cons (pe_glob (v := .int 12) rfl mS ⟨_, rfl⟩) pa_nil))))))) (pss_one ps_never) pss_nil), ?_⟩
    refine ⟨_, rfl, _, rfl, z, L, 0, 12, rfl, by omega, fun H1 s1 => ?_⟩
    rw [isText_of (Nat.zero_le _) h2 h1]
    exact ⟨true, rfl, iteF (q H1 s1)⟩
end
end Say
namespace Say
open PySem PySem.Spec PyProof.Rows L2
section
variable {P : Program} {w : World} {K : PySem.W.Frag} {mg : Str → Option Value} {base : Heap}
abbrev sChE : Stmt := topS 32
theorem scChE : FnScope ["letters", "exceptions", "last", "number", "pair"] ["letters", "exceptions"] (defScope sChE) := ⟨rfl, rfl, rfl, by decide +kernel, rfl, by decide +kernel, by decide +kernel⟩
def spChE : Sp := fun vs H Q _ => ∃ (L : List Nat) (X : Addr) (es : List Exc), vs = [.str (T L), .ref X] ∧ ExcsAt H X es ∧ (∀ e ∈ es, ExcOk L e) ∧ es.length ≤ 8 ∧ (es.Pairwise fun e f => e.1 < f.1) ∧ ∀ (H' : Hp), Same H H' → Q .non H'
theorem ok_chE {f : Addr} {fd : FuncData} (F : Fun K "check_exceptions" "check_exceptions" sChE f fd) (B : Bn mg) (cM : KI mg "MOST_EXCEPTIONS" 8) (DI : Df P w K mg base "is_exception" ["letters", "pair"] 3 spIsExc) :
    FnOk P w K mg base CX0 4 f fd ["letters", "exceptions"] spChE := by
  obtain ⟨fI, fdI, GI, kI, bI, mI⟩ := DI
  obtain ⟨tS, mS⟩ := cM
  refine F.ok scChE (fun vs H Q E h => ?_) (fun cdv A outer s H vs Q E hr h => ?_)
  · obtain ⟨L, X, es, rfl, _⟩ := h
    rfl
  · obtain ⟨L, X, es, rfl, ⟨ts, hX, hp⟩, ho, h8, up, q⟩ := h
    refine ⟨_, pss_cons (ps_if (pt_not (pt_val (pe_callB call_isi (by rfl) B.isi (by decide +kernel) (pa_cons (pv 1) (pa_cons (pe_bltn (v := .ty "tuple") rfl B.tup (by decide +kernel) rfl) pa_nil))))) (pss_one ps_never) pss_nil)
      (pss_cons (ps_set (i := 2) scChE.nd rfl (.inl rfl) pe_str)
      (pss_one (ps_for PassesOwn.never rfl (pi_enumT (by rfl) B.enu (pa_cons (pv 1) pa_nil)) (pg_tup (by rfl) (pgs_cons (pg_name (i := 3) scChE.nd rfl (.inl rfl)) (pgs_cons (pg_name (i := 4) scChE.nd rfl (.inl rfl)) pgs_nil)))
        (pss_cons (ps_if (PW.pt (pw_or (pt_cmpR op_eq (pv 3) (pe_glob (v := .int 8) rfl mS ⟨_, rfl⟩) (nomark _)) (pw_or (pt_not (pt_val (pe_call GI hr (by rfl) mI kI bI .nil pass0 (pa_cons (pv 0) (pa_cons (pv 4) pa_nil)))))
            (pw_or1 (pt_cmpR op_le_str (pe_ix ix_tup (pv 4) pe_int (fun _ _ => rfl)) (pv 2) (nomark _)))))) (pss_one ps_never) pss_nil)
        (pss_one (ps_set (i := 2) scChE.nd rfl (.inl rfl) (pe_ix ix_tup (pv 4) pe_int (fun _ _ => rfl)))))))), ?_⟩
    refine ⟨_, rfl, _, _, .type "tuple", _, true, rfl, ClsV.ty _, .fTuple hX.choose_spec.1, kit_ty (by decide +kernel), true, rfl, iteF ?_⟩
    refine ⟨_, rfl, X, _, rfl, .inl hX.rd, for_it (walk_enumT (xs := ts.map V.ref)) (fun i σ H2 => Same H H2 ∧ ∃ l v3 v4, σ = [some (.str (T L)), some (.ref X), some (.str (T l)), v3, v4] ∧ ∀ e, es[i]? = some e → l < e.1) ⟨Same.refl H, [], _, _, by rw [← show Str.ofString "" = T [] from nil_eq]; rfl, fun e he => ?_⟩ (fun i σ H2 _ h => .inl (hX.kt (.of h.1)).rd) ?_ ?_⟩
    · have := (ho e (List.mem_of_getElem? he)).w1
      cases h : e.1 with
      | nil => rw [h] at this; exact absurd this (by decide)
      | cons a r => exact List.Lex.nil
    · rintro i x σ H2 H3 hi ⟨s2, l, v3, v4, rfl, hlt⟩ ⟨t, x1, x2, rfl, ht, rfl, g1, g2⟩
      cases g1
      have g2 : (ts.map V.ref)[i]? = some x2 := g2
      rw [List.getElem?_map] at g2
      obtain ⟨a, ha, e⟩ := Option.map_eq_some_iff.mp g2
      subst e
      obtain ⟨e, he, hat⟩ := paired_at hp ha
      have sm := same_new ht (.tup [.int (i : Nat), .ref a])
      have hi2 : i < es.length := (List.getElem?_eq_some_iff.mp he).1
      refine ⟨t, _, rfl, .inl (.inl upd_same), rfl, _, _, rfl, _, _, rfl, rfl, ?_⟩
      refine ⟨_, rfl, rfl, _, rfl, ?_⟩
      have nq : ¬ V.int ((i : Nat) : Int) = V.int 8 := fun z => by
        have := V.int.inj z
        omega
      rw [decide_eq_false nq]
      refine iteF ?_
      refine ⟨_, rfl, _, rfl, L, a, e, rfl, sm _ _ (s2 _ _ hat), ho e (List.mem_of_getElem? he), fun H4 s4 => ?_⟩
      have hat4 := s4 _ _ (sm _ _ (s2 _ _ hat))
      refine ⟨true, rfl, iteF ?_⟩
      refine ⟨_, rfl, a, _, 0, .str (T e.1), rfl, rfl, .inl (.inl hat4), atI_nat (j := 0) rfl, _, rfl, _, _, rfl, rfl, _, rfl, ?_⟩
      have lt := hlt e he
      rw [show decide ((T l).cps.toList < (T e.1).cps.toList) = true from decide_eq_true lt]
      refine iteF ?_
      refine ⟨_, rfl, a, _, 0, .str (T e.1), rfl, rfl, .inl (.inl hat4), atI_nat (j := 0) rfl, ?_⟩
      refine ⟨s2.trans (sm.trans s4), e.1, _, _, rfl, fun e' he' => ?_⟩
      exact (List.pairwise_iff_getElem.mp up) i (i + 1) hi2 (List.getElem?_eq_some_iff.mp he').1 (Nat.lt_succ_self _) |> fun h => by
        rw [(List.getElem?_eq_some_iff.mp he).2, (List.getElem?_eq_some_iff.mp he').2] at h
        exact h
    · rintro σ H2 ⟨s2, l, v3, v4, rfl, _⟩
      exact q H2 s2
abbrev sCh : Stmt := topS 29
theorem scCh : FnScope ["book", "letters", "rules", "exceptions"] ["book"] (defScope sCh) := ⟨rfl, rfl, rfl, by decide +kernel, rfl, by decide +kernel, by decide +kernel⟩
def spCh : Sp := fun vs H Q _ => ∃ (b : Addr) (L : List Nat) (rs : List Rule) (es : List Exc), vs = [.ref b] ∧ BookAt H b L rs es ∧ BookOk L rs es ∧ ∀ (H' : Hp), Same H H' → Q (.ref b) H'
theorem ok_ch {f : Addr} {fd : FuncData} (F : Fun K "checked_book" "checked_book" sCh f fd) (B : Bn mg) (DL : Df P w K mg base "check_letters" ["letters"] 2 spChL) (DR : Df P w K mg base "check_rules" ["letters", "rules"] 4 spChR)
    (DE : Df P w K mg base "check_exceptions" ["letters", "exceptions"] 4 spChE) : FnOk P w K mg base CX0 5 f fd ["book"] spCh := by
  obtain ⟨fL, fdL, GL, kL, bL, mL⟩ := DL
  obtain ⟨fR, fdR, GR, kR, bR, mR⟩ := DR
  obtain ⟨fE, fdE, GE, kE, bE, mE⟩ := DE
  refine F.ok scCh (fun vs H Q E h => ?_) (fun cdv A outer s H vs Q E hr h => ?_)
  · obtain ⟨b, L, rs, es, rfl, _⟩ := h
    rfl
  · obtain ⟨b, L, rs, es, rfl, ⟨R, X, hb, hR, hX⟩, ho, q⟩ := h
    refine ⟨_, pss_cons (ps_if (PW.pt (pw_or (pt_not (pt_val (pe_callB call_isi (by rfl) B.isi (by decide +kernel) (pa_cons (pv 0) (pa_cons (pe_bltn (v := .ty "tuple") rfl B.tup (by decide +kernel) rfl) pa_nil)))))
          (pw_or1 (pt_cmpR op_ne (pe_callB call_len (by rfl) B.len PySem.boot_len (pa_cons (pv 0) pa_nil)) pe_int (nomark _))))) (pss_one ps_never) pss_nil)
      (pss_cons (ps_asg (pv 0) (pg_tup (by rfl) (pgs_cons (pg_name (i := 1) scCh.nd rfl (.inl rfl)) (pgs_cons (pg_name (i := 2) scCh.nd rfl (.inl rfl)) (pgs_cons (pg_name (i := 3) scCh.nd rfl (.inl rfl)) pgs_nil)))))
      (pss_cons (ps_expr (pe_call GL (hr.mono (by decide)) (by rfl) mL kL bL .nil pass0 (pa_cons (pv 1) pa_nil)))
      (pss_cons (ps_expr (pe_call GR hr (by rfl) mR kR bR .nil pass0 (pa_cons (pv 1) (pa_cons (pv 2) pa_nil))))
      (pss_cons (ps_expr (pe_call GE hr (by rfl) mE kE bE .nil pass0 (pa_cons (pv 1) (pa_cons (pv 3) pa_nil))))
      (pss_one (ps_ret (pv 0))))))), ?_⟩
    refine ⟨_, rfl, _, _, .type "tuple", _, true, rfl, ClsV.ty _, .base (.tup hb), kit_ty (by decide +kernel), true, rfl, iteF ?_⟩
    refine ⟨_, rfl, _, 3, rfl, .inr ⟨_, .inl (.inl hb), rfl⟩, rfl, _, rfl, iteF ?_⟩
    refine ⟨_, rfl, b, _, rfl, .inl (.inl hb), rfl, _, _, rfl, _, _, rfl, _, _, rfl, rfl, ?_⟩
    refine ⟨_, rfl, L, rfl, ho.lt, fun H1 s1 => ?_⟩
    refine ⟨_, rfl, _, rfl, L, R, rs, rfl, ho.lt, hR.kt (.of s1), ho.rl, ho.r12, fun H2 s2 => ?_⟩
    refine ⟨_, rfl, _, rfl, L, X, es, rfl, hX.kt (.of (s1.trans s2)), ho.ex, ho.e8, ho.up, fun H3 s3 => ?_⟩
    exact ⟨_, rfl, q H3 (s1.trans (s2.trans s3))⟩
end
end Say
namespace Say
open PySem PySem.Spec PyProof.Rows L2
section
variable {P : Program} {w : World} {K : PySem.W.Frag} {mg : Str → Option Value} {base : Heap} {C fI : Addr}
abbrev sSaid : Stmt := topS 61
theorem scSaid : FnScope ["book", "word", "letters", "rules", "exceptions", "written", "sounds"] ["book", "word"] (defScope sSaid) := ⟨rfl, rfl, rfl, by decide +kernel, rfl, by decide +kernel, by decide +kernel⟩
/-- the sounds, or Unsaid with the place -/
def toldS (C : Addr) (rs : List Rule) (es : List Exc) (wd : List Nat) (H : Hp) (Q : VK) (E : XK) : Prop :=
  (∀ so, saidM rs es wd = some so → ∀ (H' : Hp), Same H H' → Q (.str (T so)) H') ∧
  (saidM rs es wd = none → ∀ p : Nat, (W rs wd).2 = some p → ∀ (d : Addr) (H' : Hp), Same H H' → H d = none → H' d = some (.xd [(("place" : Str), .int p)]) → E (.ref C) (some d) H')
def spSaidR (C : Addr) : Sp := fun vs H Q E => ∃ (b : Addr) (L : List Nat) (rs : List Rule) (es : List Exc) (wd : List Nat), vs = [.ref b, .str (T wd)] ∧ BookAt H b L rs es ∧ BookOk L rs es ∧ (∀ c ∈ wd, c ∈ L) ∧ wd.length ≤ 12 ∧ toldS C rs es wd H Q E
theorem ok_saidR {f fD : Addr} {fd fdD : FuncData} (F : Fun K "said" "said" sSaid f fd) (DC : Df P w K mg base "checked_book" ["book"] 5 spCh) (DW : Df P w K mg base "check_word" ["letters", "word"] 2 spChW)
    (GD : FnOk P w K mg base (L2.CX P w) 4 fD fdD ["rules", "word"] (spWdR C)) (kD : PySem.W.keepIn K (.ref fD) = true) (bD : Binds K fdD ["rules", "word"] []) (mD : mg "walked" = some (.ref fD))
    (DN : Df P w K mg base "numbers_of" ["steps"] 1 spNum) (DS : Df P w K mg base "sounds_of" ["rules", "numbers"] 1 spSou) : FnOk P w K mg base (L2.CX P w) 6 f fd ["book", "word"] (spSaidR C) := by
  obtain ⟨fC, fdC, GC, kC, bC, mC⟩ := DC
  obtain ⟨fW, fdW, GW, kW, bW, mW⟩ := DW
  obtain ⟨fN, fdN, GN, kN, bN, mN⟩ := DN
  obtain ⟨fS, fdS, GS, kS, bS, mS⟩ := DS
  refine F.okX scSaid (fun vs H Q E h => ?_) (fun cdv A outer s H vs Q E hr h => ?_)
  · obtain ⟨b, L, rs, es, wd, rfl, _⟩ := h
    rfl
  · obtain ⟨b, L, rs, es, wd, rfl, hB, ho, hw, hl, q1, q2⟩ := h
    have tk : Takes _ (fun cls d _ H => E cls d H) := takes_of (X := cxOf (L2.CX P w) P w K mg base ["book", "word", "letters", "rules", "exceptions", "written", "sounds"] "said" (defScope sSaid) f cdv A outer s H E) rfl rfl rfl rfl
    have px : PassesOwn (model P w) (A.deeper (envOfC "said" (defScope sSaid) s.heap.objs.size f cdv)) (envOfC "said" (defScope sSaid) s.heap.objs.size f cdv) (cxOf (L2.CX P w) P w K mg base ["book", "word", "letters", "rules", "exceptions", "written", "sounds"] "said" (defScope sSaid) f cdv A outer s H E).xe := PassesOwn.leaving
    refine ⟨_, pss_cons (ps_asg (pe_call GC hr (by rfl) mC kC bC .nil pass0 (pa_cons (pv 0) pa_nil)) (pg_tup (by rfl) (pgs_cons (pg_name (i := 2) scSaid.nd rfl (.inl rfl)) (pgs_cons (pg_name (i := 3) scSaid.nd rfl (.inl rfl)) (pgs_cons (pg_name (i := 4) scSaid.nd rfl (.inl rfl)) pgs_nil)))))
      (pss_cons (ps_expr (pe_call GW (hr.mono (by decide)) (by rfl) mW kW bW .nil pass0 (pa_cons (pv 2) (pa_cons (pv 1) pa_nil))))
      (pss_cons (ps_for px rfl (pi_tup (pv 4)) (pg_tup (by rfl) (pgs_cons (pg_name (i := 5) scSaid.nd rfl (.inl rfl)) (pgs_cons (pg_name (i := 6) scSaid.nd rfl (.inl rfl)) pgs_nil)))
        (pss_one (ps_if (pt_cmpR op_eq (pv 5) (pv 1) (nomark _)) (pss_one (ps_ret (pv 6))) pss_nil)))
      (pss_one (ps_ret (pe_call GS (hr.mono (by decide)) (by rfl) mS kS bS .nil pass0 (pa_cons (pv 3) (pa_cons (pe_call GN (hr.mono (by decide)) (by rfl) mN kN bN .nil pass0 (pa_cons (pe_callS GD (hr.mono (by decide)) (by rfl) mD kD bD (fun σ => passAt tk σ) (by exact (pa_cons (pv 3) (pa_cons (pv 1) pa_nil)))) pa_nil)) pa_nil))))))), ?_⟩
    refine ⟨_, rfl, b, L, rs, es, rfl, hB, ho, fun H1 s1 => ?_⟩
    obtain ⟨R, X, hb, hR, hX⟩ := hB.kt (.of s1)
    obtain ⟨ts, hXl, hXp⟩ := id hX
    refine ⟨b, _, rfl, .inl (.inl hb), rfl, _, _, rfl, _, _, rfl, _, _, rfl, rfl, ?_⟩
    refine ⟨_, rfl, _, rfl, L, wd, rfl, hw, hl, fun H2 s2 => ?_⟩
    have hXl2 := hXl.kt (.of s2)
    refine ⟨_, rfl, X, rfl, ⟨_, .inl hXl2.rd⟩, for_it (walk_tup (xs := ts.map V.ref)) (fun i σ H3 => Same H2 H3 ∧ (∃ v5 v6, σ = [some (.ref b), some (.str (T wd)), some (.str (T L)), some (.ref R), some (.ref X), v5, v6]) ∧ ∀ j e, j < i → es[j]? = some e → ¬ e.1 = wd)
      ⟨Same.refl _, ⟨_, _, rfl⟩, fun j e h => absurd h (Nat.not_lt_zero j)⟩ (fun i σ H3 _ h => .inl (hXl2.kt (.of h.1)).rd) ?_ ?_⟩
    · rintro i x σ H3 H4 hi ⟨s3, ⟨v5, v6, rfl⟩, hn⟩ ⟨rfl, hx⟩
      rw [List.getElem?_map] at hx
      obtain ⟨a, ha, e⟩ := Option.map_eq_some_iff.mp hx
      subst e
      obtain ⟨e, he, hat⟩ := paired_at hXp ha
      have hat' := s3 _ _ (s2 _ _ hat)
      refine ⟨a, _, rfl, .inl (.inl hat'), rfl, _, _, rfl, _, _, rfl, rfl, ?_⟩
      refine ⟨_, rfl, _, rfl, rfl, _, rfl, ?_⟩
      rw [eqT]
      refine ite2 (fun c => ?_) (fun c => ?_)
      · have c := of_decide_eq_true c
        have ef : es.find? (fun e => decide (e.1 = wd)) = some e := by
          refine List.find?_eq_some_iff_getElem.mpr ⟨decide_eq_true c, i, (List.getElem?_eq_some_iff.mp he).1, (List.getElem?_eq_some_iff.mp he).2, fun j hj => ?_⟩
          have := hn j _ hj (List.getElem?_eq_getElem (by have := (List.getElem?_eq_some_iff.mp he).1; omega))
          simp only [this, decide_false, Bool.not_false]
        exact ⟨_, rfl, q1 e.2 (by unfold saidM; rw [ef]) _ (s1.trans (s2.trans s3))⟩
      · have c := of_decide_eq_false (Bool.eq_false_iff.mpr c)
        refine ⟨s3, ⟨_, _, rfl⟩, fun j e' hj he' => ?_⟩
        by_cases ej : j = i
        · subst ej
          rw [he] at he'
          cases he'
          exact c
        · exact hn j e' (by omega) he'
    · rintro σ H3 ⟨s3, ⟨v5, v6, rfl⟩, hn⟩
      have ef : es.find? (fun e => decide (e.1 = wd)) = none := by
        refine List.find?_eq_none.mpr fun e he => ?_
        obtain ⟨j, hj⟩ := List.mem_iff_getElem?.mp he
        have := hn j e (by rw [List.length_map, paired_len hXp]; exact (List.getElem?_eq_some_iff.mp hj).1) hj
        simpa using this
      have eM : saidM rs es wd = sayW rs wd := by
        unfold saidM
        rw [ef]
      have hR3 := hR.kt (.of (s2.trans s3))
      have hlw : (W rs wd).1.length ≤ wd.length + 1 := wk_len rs (sgn wd) (wd.length + 1) 1
      have s13 := s1.trans (s2.trans s3)
      refine ⟨_, rfl, _, rfl, _, rfl, R, rs, wd, rfl, hR3, ho.rls, by omega, fun hN D H4 s4 hD hS => ?_, fun p hp d H4 s4 hd hH => ?_⟩
      · refine ⟨D, _, rfl, hS, by omega, fun D' H5 s5 _ hD' => ?_⟩
        refine ⟨R, D', rs, ((W rs wd).1.map fun s : Nat × Nat => s.2), rfl, hR3.kt (.of (s4.trans s5)), ho.rls, by rw [hD', List.map_map]; rfl, fun k hk => ?_, by rw [List.length_map]; omega, fun H6 s6 => ?_⟩
        · obtain ⟨st, hst, rfl⟩ := List.mem_map.mp hk
          exact wk_lt _ _ st hst
        · exact q1 _ (by rw [eM]; unfold sayW; rw [if_pos hN]) H6 (s13.trans (s4.trans (s5.trans s6)))
      · refine q2 ?_ p hp d H4 (s13.trans s4) (s13.free hd) hH
        rw [eM]
        unfold sayW
        rw [if_neg (by rw [hp]; intro z; cases z)]
end
end Say
namespace Say
open PySem PySem.Spec PyProof.Rows L2
theorem count_eqU {x : V} : ∀ {xs : List V} {us : List Value}, Vals xs us → xs.all flatV = true → us.countP (eqU x) = xs.countP fun y => eqV y x
  | _, _, .nil, _ => rfl
  | y :: xs, u :: us, .cons r t, f => by
    rw [List.all_cons, Bool.and_eq_true] at f
    have ih := count_eqU (x := x) t f.2
    rw [List.countP_cons, List.countP_cons, ih, eqU_of r f.1]
section
variable {X : Cx}
/-- l.count(y) of plain values -/
def rCntV (K : PySem.W.Frag) : V → List V → Hp → VK → Prop := fun x xs H Q => ∃ (p : Addr) (ys : List V) (y : V), x = .ref p ∧ xs = [y] ∧ SqL K H p ys ∧ flatV y = true ∧ ys.all flatV = true ∧ Q (.int ((ys.countP fun z => eqV z y : Nat) : Int)) H
theorem mt_countV : MtR X "list.count" (rCntV X.K) := by
  intro pins s σ H x xs v us Q I rx rxs h
  obtain ⟨p, ys, y, rfl, rfl, hs, fy, fys, q⟩ := h
  cases rx
  obtain ⟨u, rfl, ru⟩ := rxs.one
  obtain ⟨its, rv, ⟨⟨cls, dd, data, sl⟩, n, ho, hc, hdn, hd⟩, hlen⟩ := I.list hs
  simp only at hc hd
  subst hc hd
  refine call_meets PySem.F.slot_list_count ⟨_, ho, rfl⟩ PySem.F.entry_list_count (PySem.F.args_list_count_2 _ _)
    (SeqAt.list_countAt p its.toArray n dd sl u (eqU y)) ⟨ho, fun u' hu' => mem_eqAt ru fy rv fys u' (by simpa using hu'), ?_⟩
  have ec : its.toArray.toList.countP (eqU y) = ys.countP fun z => eqV z y := count_eqU rv fys
  refine ⟨.int _, H, I.tok _, ⟨s.toks, ?_⟩, q⟩
  rw [ec]
/-- isinstance(e, c), e the caught one, an instance of D with a dict -/
def rIsED (K : PySem.W.Frag) (D a : Addr) (cls : Value) (d : Option Addr) : List V → Hp → VK → Prop := fun xs H Q => ∃ (c : V) (cv : Value) (b : Bool) (dd : Addr) (fs : List (Str × V)), xs = [.ref a, c] ∧ ClsV c cv ∧ cls = .ref D ∧ d = some dd ∧ H dd = some (.xd fs) ∧ PySem.W.kitOne K (.ref D) cv = some b ∧ Q (.bl b) H
theorem call_isED {a D : Addr} {oe : Obj} {cls : Value} {d : Option Addr} {pn : List (Addr × Obj)} (C : ExcC X.K D) (hz : Zc cls d oe) (hf : ∃ vs, oe.data = .fields vs) : CallR (X.suite a ((a, oe) :: pn)) (.builtin "isinstance") (rIsED X.K D a cls d) := by
  intro pins s σ H xs us Q I r h
  obtain ⟨c, cv, b, dd, fs, rfl, hcv, ecl, ed, hH, e, q⟩ := h
  subst ed
  subst ecl
  obtain ⟨u1, u2, rfl, r1, r2⟩ := vals2 r
  cases (show u1 = Value.ref a from r1)
  have ec := hcv.eq r2
  subst ec
  obtain ⟨hget, _⟩ := I.pin (a, oe) (List.mem_append.mpr (.inl List.mem_cons_self))
  obtain ⟨vs, hv⟩ := hf
  have hx : ObjOk X.prog X.w H s.heap dd (.xd fs) := I.hok dd _ hH
  obtain ⟨mA, hns, hr⟩ := hx
  obtain ⟨od, ho, hl⟩ := lookIn_ns hns
  have J : PySem.W.InstAt s.heap a oe D (some od) := ⟨hget, hz.1, by unfold PySem.W.notCls; rw [hv] <;> rfl, by rw [hz.2]; exact ho⟩
  have hcl : (PySem.W.clsIn X.K D).isSome = true := by
    obtain ⟨cd, hc, _⟩ := PySem.W.any_some C.hd
    rw [hc]; rfl
  exact PySem.W.kia_one (PySem.W.kitx_exc hcl C.hg C.hk C.hs C.ha C.hn C.ht C.hm) I.kIn J e (fun z => nomatch z) fun tk => ⟨.bl b, H, I.kept (t' := tk) fun _ _ z => z, rfl, q⟩
/-- what may be known of the caught one's dict -/
def Held (H : Hp) (d : Option Addr) : Prop := d = none ∨ ∃ (dd : Addr) (fs : List (Str × V)), d = some dd ∧ H dd = some (.xd fs)
theorem Held.same {H H' : Hp} {d : Option Addr} (h : Held H d) (e : ∀ b o, H b = some o → H' b = some o) : Held H' d := by
  rcases h with h | ⟨dd, fs, h1, h2⟩
  · exact .inl h
  · exact .inr ⟨dd, fs, h1, e _ _ h2⟩
/-- isinstance(e, c), e the caught one, an instance of D -/
def rIsEA (K : PySem.W.Frag) (D a : Addr) (cls : Value) (d : Option Addr) : List V → Hp → VK → Prop := fun xs H Q => ∃ (c : V) (cv : Value) (b : Bool), xs = [.ref a, c] ∧ ClsV c cv ∧ cls = .ref D ∧ Held H d ∧ PySem.W.kitOne K (.ref D) cv = some b ∧ Q (.bl b) H
theorem call_isEA {a D : Addr} {oe : Obj} {cls : Value} {d : Option Addr} {pn : List (Addr × Obj)} (C : ExcC X.K D) (hz : Zc cls d oe) (hf : ∃ vs, oe.data = .fields vs) : CallR (X.suite a ((a, oe) :: pn)) (.builtin "isinstance") (rIsEA X.K D a cls d) := by
  intro pins s σ H xs us Q I r h
  obtain ⟨c, cv, b, rfl, hcv, ecl, hH, e, q⟩ := h
  subst ecl
  obtain ⟨u1, u2, rfl, r1, r2⟩ := vals2 r
  cases (show u1 = Value.ref a from r1)
  have ec := hcv.eq r2
  subst ec
  obtain ⟨hget, _⟩ := I.pin (a, oe) (List.mem_append.mpr (.inl List.mem_cons_self))
  obtain ⟨vs, hv⟩ := hf
  have hcl : (PySem.W.clsIn X.K D).isSome = true := by
    obtain ⟨cd, hc, _⟩ := PySem.W.any_some C.hd
    rw [hc]; rfl
  obtain ⟨od, J⟩ : ∃ od, PySem.W.InstAt s.heap a oe D od := by
    rcases hH with ed | ⟨dd, fs, ed, hH⟩
    · subst ed
      obtain ⟨oc, od, oda, osl⟩ := oe
      obtain ⟨h1, h2⟩ := hz
      dsimp only at h1 h2 hv
      subst h1 h2 hv
      exact ⟨none, hget, rfl, rfl, trivial⟩
    · subst ed
      have hx : ObjOk X.prog X.w H s.heap dd (.xd fs) := I.hok dd _ hH
      obtain ⟨mA, hns, hr⟩ := hx
      obtain ⟨od, ho, hl⟩ := lookIn_ns hns
      exact ⟨some od, hget, hz.1, by unfold PySem.W.notCls; rw [hv] <;> rfl, by rw [hz.2]; exact ho⟩
  exact PySem.W.kia_one (PySem.W.kitx_exc hcl C.hg C.hk C.hs C.ha C.hn C.ht C.hm) I.kIn J e (fun z => nomatch z) fun tk => ⟨.bl b, H, I.kept (t' := tk) fun _ _ z => z, rfl, q⟩
end
end Say
namespace Say
open PySem PySem.Spec PyProof.Rows L2
/-- what the top says of the classes that are asked for, the caught one's class at CU, the j-th of the twelve -/
structure WordC (K : PySem.W.Frag) (mg : Str → Option Value) (CU : Addr) (j : Nat) : Prop where
  say : ∃ c, mg "SayError" = some (.ref c) ∧ PySem.W.exmOne K (.ref CU) (.ref c) = some true
  book : ∃ c, mg "BadBook" = some (.ref c) ∧ PySem.W.kitOne K (.ref CU) (.ref c) = some (decide (0 = j))
  word : ∃ c, mg "BadWord" = some (.ref c) ∧ PySem.W.kitOne K (.ref CU) (.ref c) = some (decide (1 = j))
  snds : ∃ c, mg "BadSounds" = some (.ref c) ∧ PySem.W.kitOne K (.ref CU) (.ref c) = some (decide (2 = j))
  coun : ∃ c, mg "BadCount" = some (.ref c) ∧ PySem.W.kitOne K (.ref CU) (.ref c) = some (decide (3 = j))
  uns : ∃ c, mg "Unsaid" = some (.ref c) ∧ PySem.W.kitOne K (.ref CU) (.ref c) = some (decide (4 = j))
  lett : ∃ c, mg "NoLetter" = some (.ref c) ∧ PySem.W.kitOne K (.ref CU) (.ref c) = some (decide (5 = j))
  exce : ∃ c, mg "NoException" = some (.ref c) ∧ PySem.W.kitOne K (.ref CU) (.ref c) = some (decide (6 = j))
  othe : ∃ c, mg "OtherLetters" = some (.ref c) ∧ PySem.W.kitOne K (.ref CU) (.ref c) = some (decide (7 = j))
  samp : ∃ c, mg "BadSamples" = some (.ref c) ∧ PySem.W.kitOne K (.ref CU) (.ref c) = some (decide (8 = j))
  deed : ∃ c, mg "BadDeed" = some (.ref c) ∧ PySem.W.kitOne K (.ref CU) (.ref c) = some (decide (9 = j))
  halt : ∃ c, mg "Halted" = some (.ref c) ∧ PySem.W.kitOne K (.ref CU) (.ref c) = some (decide (10 = j))
  text : ∃ c, mg "BadText" = some (.ref c) ∧ PySem.W.kitOne K (.ref CU) (.ref c) = some (decide (11 = j))
  val : mg "ValueError" = none
  kv : PySem.W.kitOne K (.ref CU) (.type "ValueError") = some true
  exc : ExcC K CU
  xf : XfC K CU
  noP : PySem.W.findIn K (.ref CU) "place" = some none
  noN : PySem.W.findIn K (.ref CU) "number" = some none
  noA : PySem.W.findIn K (.ref CU) "part" = some none
  noD : PySem.W.findIn K (.ref CU) "done" = some none
  noR : PySem.W.findIn K (.ref CU) "row" = some none
/-- the name of the j-th -/
def nmJ (j : Nat) : Str := (["book", "word", "sounds", "count", "unsaid", "letter", "exception", "others", "samples", "deed", "halted", "text"] : List Str).getD j ""
def plainJ (j : Nat) : Bool := decide (j = 1) || (decide (j = 2) || (decide (j = 3) || (decide (j = 5) || (decide (j = 6) || decide (j = 7)))))
def toldJ (j : Nat) : Bool := decide (j < 12)
def bsJ (j : Nat) : List V := [.bl (decide (0 = j)), .bl (decide (1 = j)), .bl (decide (2 = j)), .bl (decide (3 = j)), .bl (decide (4 = j)), .bl (decide (5 = j)), .bl (decide (6 = j)), .bl (decide (7 = j)), .bl (decide (8 = j)), .bl (decide (9 = j)), .bl (decide (10 = j)), .bl (decide (11 = j))]
theorem plain_cases {j : Nat} (h : plainJ j = true) : j = 1 ∨ j = 2 ∨ j = 3 ∨ j = 5 ∨ j = 6 ∨ j = 7 := by
  unfold plainJ at h
  simpa using h
theorem told_cases {j : Nat} (h : toldJ j = true) : j = 0 ∨ j = 1 ∨ j = 2 ∨ j = 3 ∨ j = 4 ∨ j = 5 ∨ j = 6 ∨ j = 7 ∨ j = 8 ∨ j = 9 ∨ j = 10 ∨ j = 11 := by
  have h := of_decide_eq_true h
  omega
theorem told_facts {j : Nat} (h : toldJ j = true) : (bsJ j).all flatV = true ∧ ((bsJ j).countP fun z => eqV z (.bl true)) = 1 ∧ (bsJ j)[j]? = some (.bl true) ∧ (∀ (m : Nat) (z : V), m < j → (bsJ j)[m]? = some z → eqV z (.bl true) = false) ∧
    atI ([.str "book", .str "word", .str "sounds", .str "count", .str "unsaid", .str "letter", .str "exception", .str "others", .str "samples", .str "deed"] ++ [.str "halted", .str "text"] : List V) (j : Nat) = some (.str (nmJ j)) := by
  have key : ∀ (m : Nat) (z : V), m < j → (bsJ j)[m]? = some z → eqV z (.bl true) = false := fun m z hm hz => by
    have hj := of_decide_eq_true h
    have hk : ∀ a b : Nat, a ≠ b → eqV (.bl (decide (a = b))) (.bl true) = false := fun a b n => by rw [decide_eq_false n]; rfl
    match m, hm, hz with
    | 0, hm, e => cases e; exact hk _ _ (Nat.ne_of_lt hm)
    | 1, hm, e => cases e; exact hk _ _ (Nat.ne_of_lt hm)
    | 2, hm, e => cases e; exact hk _ _ (Nat.ne_of_lt hm)
    | 3, hm, e => cases e; exact hk _ _ (Nat.ne_of_lt hm)
    | 4, hm, e => cases e; exact hk _ _ (Nat.ne_of_lt hm)
    | 5, hm, e => cases e; exact hk _ _ (Nat.ne_of_lt hm)
    | 6, hm, e => cases e; exact hk _ _ (Nat.ne_of_lt hm)
    | 7, hm, e => cases e; exact hk _ _ (Nat.ne_of_lt hm)
    | 8, hm, e => cases e; exact hk _ _ (Nat.ne_of_lt hm)
    | 9, hm, e => cases e; exact hk _ _ (Nat.ne_of_lt hm)
    | 10, hm, e => cases e; exact hk _ _ (Nat.ne_of_lt hm)
    | 11, hm, e => cases e; exact hk _ _ (Nat.ne_of_lt hm)
    | m + 12, hm, e => omega
  rcases told_cases h with rfl | rfl | rfl | rfl | rfl | rfl | rfl | rfl | rfl | rfl | rfl | rfl
  all_goals exact ⟨rfl, rfl, rfl, key, rfl⟩
theorem plain_facts {j : Nat} (h : plainJ j = true) : nmJ j ≠ "book" ∧ nmJ j ≠ "halted" ∧ nmJ j ≠ "unsaid" ∧ nmJ j ≠ "text" ∧ nmJ j ≠ "samples" ∧ nmJ j ≠ "deed" := by
  rcases plain_cases h with rfl | rfl | rfl | rfl | rfl | rfl
  all_goals exact ⟨by decide +kernel, by decide +kernel, by decide +kernel, by decide +kernel, by decide +kernel, by decide +kernel⟩
/-- a wish that may ask how many slots there are -/
theorem takes_len {X : Cx} {W : WX} {n : Nat} (h : X.N.length = n) (tk : Takes X W) : Takes X (fun cls d σ H => σ.length = n → W cls d σ H) := fun u s' xx => by
  obtain ⟨a, B, sI, pins, σ, H, cls, d, e, I, nb, up, sky, na, os, ag, w⟩ := xx
  exact tk u s' ⟨a, B, sI, pins, σ, H, cls, d, e, I, nb, up, sky, na, os, ag, w (I.len.trans h)⟩
abbrev sLWo : Stmt := topS 71
abbrev nLWo : List Str := ["_law_work", "_law_found", "e", "_law_kinds", "_law_names", "_law_name"]
theorem scLWo : FnScope nLWo ["_law_work"] (defScope sLWo) := ⟨rfl, rfl, rfl, by decide +kernel, rfl, by decide +kernel, by decide +kernel⟩
abbrev suLWo : List Stmt := match defBody sLWo with
  | _ :: .Try _ (.ExceptHandler _ _ b _ :: _) _ _ _ :: _ => b
  | _ => []
section
variable {X : Cx} {g CU : Addr} {cdg : Value} {s : Shared} {H : Hp}
abbrev cxLWo (X : Cx) (g : Addr) (cdg : Value) (s : Shared) (H : Hp) : Cx := (cxOf C8.CX0 X.prog X.w X.K X.mg X.base nLWo "_law_word" (defScope sLWo) g cdg X.A X.stack s H C8.E0).nox
/-- what the caught one is told as -/
def tellsJ (j : Nat) (d : Option Addr) (H : Hp) (R : Hp → Addr → Prop) : Prop :=
  (j = 4 ∧ ∃ (dd : Addr) (p : Nat), d = some dd ∧ H dd = some (.xd [(("place" : Str), .int p)]) ∧ R = fun H2 t => H2 t = some (.tup [.str "unsaid", .int p])) ∨
  (plainJ j = true ∧ Held H d ∧ R = fun H2 t => H2 t = some (.tup [.str (nmJ j), .non])) ∨
  (j = 0 ∧ ∃ (dd : Addr) (p n : Int), d = some dd ∧ H dd = some (.xd [(("number" : Str), .int n), (("part" : Str), .int p)]) ∧ R = fun H2 t => ∃ q, H2 q = some (.tup [.int p, .int n]) ∧ H2 t = some (.tup [.str "book", .ref q])) ∨
  (j = 10 ∧ ∃ (dd : Addr) (n m : Int), d = some dd ∧ H dd = some (.xd [(("done" : Str), .int m), (("number" : Str), .int n)]) ∧ R = fun H2 t => ∃ q, H2 q = some (.tup [.int n, .int m]) ∧ H2 t = some (.tup [.str "halted", .ref q])) ∨
  (j = 11 ∧ ∃ (dd : Addr) (n : Int), d = some dd ∧ H dd = some (.xd [(("row" : Str), .int n)]) ∧ R = fun H2 t => H2 t = some (.tup [.str "text", .int n])) ∨
  ((j = 8 ∨ j = 9) ∧ ∃ (dd : Addr) (n : Int), d = some dd ∧ H dd = some (.xd [(("number" : Str), .int n)]) ∧ R = fun H2 t => H2 t = some (.tup [.str (nmJ j), .int n]))
theorem word_suite {j : Nat} (B : Bn X.mg) (WC : WordC X.K X.mg CU j) (a : Addr) (oe : Obj) (cls : Value) (d : Option Addr) (pn : List (Addr × Obj)) (hz : Zc cls d oe) (hf : ∃ vs, oe.data = .fields vs) : ∃ t : TS,
    PSs ((cxLWo X g cdg s H).suite a ((a, oe) :: pn)) suLWo t ∧
    ∀ (R : Hp → Addr → Prop) (D : Ends) (σ : L2.St) (H1 : Hp), cls = .ref CU → σ.length = 6 → H1 a = none → tellsJ j d H1 R → (∀ (t : Addr) (H2 : Hp), Same H1 H2 → R H2 t → D.rt (.ref t) H2) →
      t D (σ.set 2 (some (.ref a))) H1 := by
  obtain ⟨c1, m1, k1⟩ := WC.book
  obtain ⟨c2, m2, k2⟩ := WC.word
  obtain ⟨c3, m3, k3⟩ := WC.snds
  obtain ⟨c4, m4, k4⟩ := WC.coun
  obtain ⟨c5, m5, k5⟩ := WC.uns
  obtain ⟨c6, m6, k6⟩ := WC.lett
  obtain ⟨c7, m7, k7⟩ := WC.exce
  obtain ⟨c8, m8, k8⟩ := WC.othe
  obtain ⟨c9, m9, k9⟩ := WC.samp
  obtain ⟨c10, m10, k10⟩ := WC.deed
  obtain ⟨c11, m11, k11⟩ := WC.halt
  obtain ⟨c12, m12, k12⟩ := WC.text
  have EC := WC.exc
  have XF := WC.xf
  have isE : CallR ((cxLWo X g cdg s H).suite a ((a, oe) :: pn)) (.builtin "isinstance") (rIsEA X.K CU a cls d) := call_isEA (X := cxLWo X g cdg s H) EC hz hf
  refine ⟨_, pss_cons (ps_set (i := 3) scLWo.nd rfl (.inl rfl) (pe_lst (pa_cons (pe_callB isE (by rfl) B.isi (by decide +kernel) (pa_cons (pv 2) (pa_cons (pe_glob (v := .ref c1) (by rfl) m1 rfl) pa_nil))) (pa_cons (pe_callB isE (by rfl) B.isi (by decide +kernel) (pa_cons (pv 2) (pa_cons (pe_glob (v := .ref c2) (by rfl) m2 rfl) pa_nil)))
        (pa_cons (pe_callB isE (by rfl) B.isi (by decide +kernel) (pa_cons (pv 2) (pa_cons (pe_glob (v := .ref c3) (by rfl) m3 rfl) pa_nil))) (pa_cons (pe_callB isE (by rfl) B.isi (by decide +kernel) (pa_cons (pv 2) (pa_cons (pe_glob (v := .ref c4) (by rfl) m4 rfl) pa_nil))) pa_nil))))))
      (pss_cons (ps_set (i := 3) scLWo.nd rfl (.inl rfl) (pe_op op_cat (pv 3) (pe_lst (pa_cons (pe_callB isE (by rfl) B.isi (by decide +kernel) (pa_cons (pv 2) (pa_cons (pe_glob (v := .ref c5) (by rfl) m5 rfl) pa_nil))) (pa_cons (pe_callB isE (by rfl) B.isi (by decide +kernel) (pa_cons (pv 2) (pa_cons (pe_glob (v := .ref c6) (by rfl) m6 rfl) pa_nil)))
        (pa_cons (pe_callB isE (by rfl) B.isi (by decide +kernel) (pa_cons (pv 2) (pa_cons (pe_glob (v := .ref c7) (by rfl) m7 rfl) pa_nil))) pa_nil))))))
      (pss_cons (ps_set (i := 3) scLWo.nd rfl (.inl rfl) (pe_op op_cat (pv 3) (pe_lst (pa_cons (pe_callB isE (by rfl) B.isi (by decide +kernel) (pa_cons (pv 2) (pa_cons (pe_glob (v := .ref c8) (by rfl) m8 rfl) pa_nil))) (pa_cons (pe_callB isE (by rfl) B.isi (by decide +kernel) (pa_cons (pv 2) (pa_cons (pe_glob (v := .ref c9) (by rfl) m9 rfl) pa_nil)))
        (pa_cons (pe_callB isE (by rfl) B.isi (by decide +kernel) (pa_cons (pv 2) (pa_cons (pe_glob (v := .ref c10) (by rfl) m10 rfl) pa_nil))) pa_nil))))))
      (pss_cons (ps_set (i := 3) scLWo.nd rfl (.inl rfl) (pe_op op_cat (pv 3) (pe_lst (pa_cons (pe_callB isE (by rfl) B.isi (by decide +kernel) (pa_cons (pv 2) (pa_cons (pe_glob (v := .ref c11) (by rfl) m11 rfl) pa_nil))) (pa_cons (pe_callB isE (by rfl) B.isi (by decide +kernel) (pa_cons (pv 2) (pa_cons (pe_glob (v := .ref c12) (by rfl) m12 rfl) pa_nil))) pa_nil)))))
      (pss_cons (ps_set (i := 4) scLWo.nd rfl (.inl rfl) (pe_lst (pa_cons pe_str (pa_cons pe_str (pa_cons pe_str (pa_cons pe_str (pa_cons pe_str (pa_cons pe_str (pa_cons pe_str (pa_cons pe_str (pa_cons pe_str (pa_cons pe_str pa_nil))))))))))))
      (pss_cons (ps_if (PW.pt (pw_or (pt_cmpR op_ne (pe_bm PySem.F.plainAttrs_list PySem.F.slot_list_count PySem.F.type_list_count mt_countV (pv 3) (pa_cons pe_bl pa_nil)) pe_int (nomark _)) (pw_or1 (pt_not (pt_val (pe_callB isE (by rfl) B.isi (by decide +kernel) (pa_cons (pv 2) (pa_cons (pe_bltn (v := .ty "ValueError") (by rfl) WC.val (by decide +kernel) rfl) pa_nil)))))))) (pss_one ps_never) pss_nil)
      (pss_cons (ps_set (i := 5) scLWo.nd rfl (.inl rfl) (pe_ix ix_list (pe_op op_cat (pv 4) (pe_lst (pa_cons pe_str (pa_cons pe_str pa_nil)))) (pe_bm PySem.F.plainAttrs_list PySem.F.slot_list_index PySem.F.type_list_index mt_index (pv 3) (pa_cons pe_bl pa_nil)) (fun _ _ => rfl)))
      (pss_cons (ps_if (pt_cmpR op_eq (pv 5) pe_str (nomark _)) (pss_one (ps_ret (pe_tup (pa_cons (pv 5) (pa_cons (pe_tup (pa_cons (pe_xf XF WC.noA hz hf (pv 2)) (pa_cons (pe_xf XF WC.noN hz hf (pv 2)) pa_nil))) pa_nil))))) pss_nil)
      (pss_cons (ps_if (pt_cmpR op_eq (pv 5) pe_str (nomark _)) (pss_one (ps_ret (pe_tup (pa_cons (pv 5) (pa_cons (pe_tup (pa_cons (pe_xf XF WC.noN hz hf (pv 2)) (pa_cons (pe_xf XF WC.noD hz hf (pv 2)) pa_nil))) pa_nil))))) pss_nil)
      (pss_cons (ps_if (pt_cmpR op_eq (pv 5) pe_str (nomark _)) (pss_one (ps_ret (pe_tup (pa_cons (pv 5) (pa_cons (pe_xf XF WC.noP hz hf (pv 2)) pa_nil))))) pss_nil)
      (pss_cons (ps_if (pt_cmpR op_eq (pv 5) pe_str (nomark _)) (pss_one (ps_ret (pe_tup (pa_cons (pv 5) (pa_cons (pe_xf XF WC.noR hz hf (pv 2)) pa_nil))))) pss_nil)
      (pss_one (ps_ret (pe_ifExp (pt_cmpR op_in_seq (pv 5) (pe_tup (pa_cons pe_str (pa_cons pe_str pa_nil))) rfl) (pe_tup (pa_cons (pv 5) (pa_cons (pe_xf XF WC.noN hz hf (pv 2)) pa_nil))) (pe_tup (pa_cons (pv 5) (pa_cons pe_non pa_nil)))))))))))))))), ?_⟩
  intro R D σ H1 ec hl ha hT q
  obtain ⟨x0, x1, x2, x3, x4, x5, rfl⟩ : ∃ x0 x1 x2 x3 x4 x5, σ = [x0, x1, x2, x3, x4, x5] := by
    rcases σ with _ | ⟨x0, _ | ⟨x1, _ | ⟨x2, _ | ⟨x3, _ | ⟨x4, _ | ⟨x5, _ | ⟨x6, r⟩⟩⟩⟩⟩⟩⟩ <;> simp at hl
    exact ⟨_, _, _, _, _, _, rfl⟩
  show tSeq _ _ _ [x0, x1, some (.ref a), x3, x4, x5] H1
  have fr : ∀ {Hx Hy : Hp} {x y : Addr} {o u : HO}, Hy = upd Hx x o → Hx x = none → Hx y = some u → Hy y = some u := fun e n h => by
    rw [e, upd_ne (ne_of_none h n)]
    exact h
  have hj : toldJ j = true := by
    rcases hT with ⟨rfl, _⟩ | ⟨e, _⟩ | ⟨rfl, _⟩ | ⟨rfl, _⟩ | ⟨rfl, _⟩ | ⟨rfl | rfl, _⟩
    case inr.inl => exact decide_eq_true (by have := plain_cases e; omega)
    all_goals exact decide_eq_true (by decide)
  have hH : Held H1 d := by
    rcases hT with ⟨_, dd, p, e1, e2, _⟩ | ⟨_, e, _⟩ | ⟨_, dd, p, n, e1, e2, _⟩ | ⟨_, dd, p, n, e1, e2, _⟩ | ⟨_, dd, n, e1, e2, _⟩ | ⟨_, dd, n, e1, e2, _⟩
    case inr.inl => exact e
    all_goals exact .inr ⟨dd, _, e1, e2⟩
  obtain ⟨fall, fcnt, fat, fno, fnm⟩ := told_facts hj
  refine ⟨_, rfl, _, _, _, rfl, .own _, ec, hH, k1, _, rfl, _, _, _, rfl, .own _, ec, hH, k2, _, rfl, _, _, _, rfl, .own _, ec, hH, k3, _, rfl, _, _, _, rfl, .own _, ec, hH, k4, ?_⟩
  refine ⟨(by show 4 ≤ sizeLine; decide), fun p1 n1 => ?_⟩
  obtain ⟨H2, e2⟩ : ∃ H2, H2 = upd H1 p1 (.lst [.bl (decide (0 = j)), .bl (decide (1 = j)), .bl (decide (2 = j)), .bl (decide (3 = j))]) := ⟨_, rfl⟩
  have g2 : H2 p1 = some (.lst [.bl (decide (0 = j)), .bl (decide (1 = j)), .bl (decide (2 = j)), .bl (decide (3 = j))]) := by rw [e2]; exact upd_same
  have S2 : Same H1 H2 := by rw [e2]; exact same_new n1 _
  have h2 := hH.same S2
  rw [← e2]
  clear e2
  refine ⟨_, rfl, _, rfl, _, _, _, rfl, .own _, ec, h2, k5, _, rfl, _, _, _, rfl, .own _, ec, h2, k6, _, rfl, _, _, _, rfl, .own _, ec, h2, k7, ?_⟩
  refine ⟨(by show 3 ≤ sizeLine; decide), fun p2 np2 => ?_⟩
  refine ⟨_, _, _, _, rfl, rfl, fr rfl np2 g2, upd_same, (by show 4 + 3 ≤ sizeLine; decide), fun p3 np3 => ?_⟩
  obtain ⟨H3, e3⟩ : ∃ H3, H3 = upd (upd H2 p2 (.lst [.bl (decide (4 = j)), .bl (decide (5 = j)), .bl (decide (6 = j))])) p3 (.lst ([.bl (decide (0 = j)), .bl (decide (1 = j)), .bl (decide (2 = j)), .bl (decide (3 = j))] ++ [.bl (decide (4 = j)), .bl (decide (5 = j)), .bl (decide (6 = j))])) := ⟨_, rfl⟩
  have g3 : H3 p3 = some (.lst [.bl (decide (0 = j)), .bl (decide (1 = j)), .bl (decide (2 = j)), .bl (decide (3 = j)), .bl (decide (4 = j)), .bl (decide (5 = j)), .bl (decide (6 = j))]) := by rw [e3]; exact upd_same
  have S3 : Same H1 H3 := by rw [e3]; exact (S2.trans (same_new np2 _)).trans (same_new np3 _)
  have h3 := hH.same S3
  rw [← e3]
  clear e3
  refine ⟨_, rfl, _, rfl, _, _, _, rfl, .own _, ec, h3, k8, _, rfl, _, _, _, rfl, .own _, ec, h3, k9, _, rfl, _, _, _, rfl, .own _, ec, h3, k10, ?_⟩
  refine ⟨(by show 3 ≤ sizeLine; decide), fun p4 np4 => ?_⟩
  refine ⟨_, _, _, _, rfl, rfl, fr rfl np4 g3, upd_same, (by show 7 + 3 ≤ sizeLine; decide), fun p5 np5 => ?_⟩
  obtain ⟨H4, e4⟩ : ∃ H4, H4 = upd (upd H3 p4 (.lst [.bl (decide (7 = j)), .bl (decide (8 = j)), .bl (decide (9 = j))])) p5 (.lst ([.bl (decide (0 = j)), .bl (decide (1 = j)), .bl (decide (2 = j)), .bl (decide (3 = j)), .bl (decide (4 = j)), .bl (decide (5 = j)), .bl (decide (6 = j))] ++ [.bl (decide (7 = j)), .bl (decide (8 = j)), .bl (decide (9 = j))])) := ⟨_, rfl⟩
  have g4 : H4 p5 = some (.lst [.bl (decide (0 = j)), .bl (decide (1 = j)), .bl (decide (2 = j)), .bl (decide (3 = j)), .bl (decide (4 = j)), .bl (decide (5 = j)), .bl (decide (6 = j)), .bl (decide (7 = j)), .bl (decide (8 = j)), .bl (decide (9 = j))]) := by rw [e4]; exact upd_same
  have S4 : Same H1 H4 := by rw [e4]; exact (S3.trans (same_new np4 _)).trans (same_new np5 _)
  have h4 := hH.same S4
  rw [← e4]
  clear e4
  refine ⟨_, rfl, _, rfl, _, _, _, rfl, .own _, ec, h4, k11, _, rfl, _, _, _, rfl, .own _, ec, h4, k12, ?_⟩
  refine ⟨(by show 2 ≤ sizeLine; decide), fun p6 np6 => ?_⟩
  refine ⟨_, _, _, _, rfl, rfl, fr rfl np6 g4, upd_same, (by show 10 + 2 ≤ sizeLine; decide), fun p7 np7 => ?_⟩
  obtain ⟨H5, e5⟩ : ∃ H5, H5 = upd (upd H4 p6 (.lst [.bl (decide (10 = j)), .bl (decide (11 = j))])) p7 (.lst ([.bl (decide (0 = j)), .bl (decide (1 = j)), .bl (decide (2 = j)), .bl (decide (3 = j)), .bl (decide (4 = j)), .bl (decide (5 = j)), .bl (decide (6 = j)), .bl (decide (7 = j)), .bl (decide (8 = j)), .bl (decide (9 = j))] ++ [.bl (decide (10 = j)), .bl (decide (11 = j))])) := ⟨_, rfl⟩
  have g5 : H5 p7 = some (.lst (bsJ j)) := by rw [e5]; exact upd_same
  have S5 : Same H1 H5 := by rw [e5]; exact (S4.trans (same_new np6 _)).trans (same_new np7 _)
  have h5 := hH.same S5
  rw [← e5]
  clear e5
  refine ⟨(by show 10 ≤ sizeLine; decide), fun p8 n8 => ?_⟩
  obtain ⟨H6, e6⟩ : ∃ H6, H6 = upd H5 p8 (.lst [.str "book", .str "word", .str "sounds", .str "count", .str "unsaid", .str "letter", .str "exception", .str "others", .str "samples", .str "deed"]) := ⟨_, rfl⟩
  have g6 : H6 p8 = some (.lst [.str "book", .str "word", .str "sounds", .str "count", .str "unsaid", .str "letter", .str "exception", .str "others", .str "samples", .str "deed"]) := by rw [e6]; exact upd_same
  have S6 : Same H1 H6 := by rw [e6]; exact S5.trans (same_new n8 _)
  have g6' := fr e6 n8 g5
  have h6 := hH.same S6
  rw [← e6]
  clear e6
  refine ⟨_, rfl, .inl ⟨rfl, _, .inl (.inl g6')⟩, p7, bsJ j, _, rfl, rfl, .inl (.inl g6'), rfl, fall, ?_⟩
  rw [fcnt]
  refine ⟨rfl, _, rfl, iteF ?_⟩
  refine ⟨_, rfl, _, _, _, rfl, .ty _, ec, h6, WC.kv, true, rfl, iteF ?_⟩
  refine ⟨_, rfl, (by show 2 ≤ sizeLine; decide), fun p9 n9 => ?_⟩
  refine ⟨_, _, _, _, rfl, rfl, fr rfl n9 g6, upd_same, (by show 10 + 2 ≤ sizeLine; decide), fun p10 n10 => ?_⟩
  have S69 := (same_new n9 (.lst [.str "halted", .str "text"])).trans (same_new n10 (.lst ([.str "book", .str "word", .str "sounds", .str "count", .str "unsaid", .str "letter", .str "exception", .str "others", .str "samples", .str "deed"] ++ [.str "halted", .str "text"])))
  have S9 := S6.trans S69
  have g9 := S69 _ _ g6'
  refine ⟨_, rfl, .inl ⟨rfl, _, .inl (.inl g9)⟩, p7, bsJ j, _, j, .bl true, rfl, rfl, .inl (.inl g9), rfl, fall, fat, rfl, fno, ?_⟩
  refine ⟨p10, _, _, .str (nmJ j), rfl, rfl, .inl (.inl upd_same), fnm, ?_⟩
  have ne : ∀ {z : Str}, nmJ j ≠ z → decide (V.str (nmJ j) = V.str z) = false := fun h => decide_eq_false fun e => h (V.str.inj e)
  rcases hT with ⟨rfl, dd, p, e1, e2, rfl⟩ | ⟨hp, hHd, rfl⟩ | ⟨rfl, dd, p, n, e1, e2, rfl⟩ | ⟨rfl, dd, n, m, e1, e2, rfl⟩ | ⟨rfl, dd, n, e1, e2, rfl⟩ | ⟨hj, dd, n, e1, e2, rfl⟩
  · refine ⟨_, rfl, rfl, _, rfl, iteF ?_⟩
    refine ⟨_, rfl, rfl, _, rfl, iteF ?_⟩
    refine ⟨_, rfl, rfl, _, rfl, iteT ?_⟩
    have h9 := S9 _ _ e2
    refine ⟨_, rfl, _, rfl, rfl, ec, dd, _, _, e1, h9, by rfl, ?_⟩
    refine ⟨(by show 2 ≤ sizeLine; decide), fun t nt => ?_⟩
    exact q t _ (S9.trans (same_new nt _)) upd_same
  · obtain ⟨f5, f6, f1, f2, f3, f4⟩ := plain_facts hp
    refine ⟨_, rfl, rfl, _, rfl, ?_⟩
    rw [ne f5]
    refine iteF ?_
    refine ⟨_, rfl, rfl, _, rfl, ?_⟩
    rw [ne f6]
    refine iteF ?_
    refine ⟨_, rfl, rfl, _, rfl, ?_⟩
    rw [ne f1]
    refine iteF ?_
    refine ⟨_, rfl, rfl, _, rfl, ?_⟩
    rw [ne f2]
    refine iteF ?_
    refine ⟨_, rfl, (by show 2 ≤ sizeLine; decide), fun p11 n11 => ?_⟩
    have S11 := S9.trans (same_new n11 (.tup [.str "samples", .str "deed"]))
    refine ⟨p11, _, rfl, .inr (.inl (.inl upd_same)), rfl, by rfl, _, rfl, ?_⟩
    have hin : inV (V.str (nmJ j)) [.str "samples", .str "deed"] = false := by
      unfold inV
      simp only [List.any_cons, List.any_nil, Bool.or_false, eqV]
      rw [beq_eq_false_iff_ne.mpr (Ne.symm f3), beq_eq_false_iff_ne.mpr (Ne.symm f4)]
      rfl
    simp only [hin, Bool.false_eq_true, if_false]
    refine ⟨_, rfl, (by show 2 ≤ sizeLine; decide), fun t nt => ?_⟩
    exact q t _ (S11.trans (same_new nt _)) upd_same
  · refine ⟨_, rfl, rfl, _, rfl, iteT ?_⟩
    have h9 := S9 _ _ e2
    refine ⟨_, rfl, _, rfl, rfl, ec, dd, _, _, e1, h9, by rfl, _, rfl, rfl, ec, dd, _, _, e1, h9, by rfl, ?_⟩
    refine ⟨(by show 2 ≤ sizeLine; decide), fun u nu => ⟨(by show 2 ≤ sizeLine; decide), fun t nt => ?_⟩⟩
    have su := same_new nu (.tup [.int p, .int n])
    have st := same_new nt (.tup [.str (nmJ 0), .ref u])
    exact q t _ (S9.trans (su.trans st)) ⟨u, st _ _ upd_same, upd_same⟩
  · refine ⟨_, rfl, rfl, _, rfl, iteF ?_⟩
    refine ⟨_, rfl, rfl, _, rfl, iteT ?_⟩
    have h9 := S9 _ _ e2
    refine ⟨_, rfl, _, rfl, rfl, ec, dd, _, _, e1, h9, by rfl, _, rfl, rfl, ec, dd, _, _, e1, h9, by rfl, ?_⟩
    refine ⟨(by show 2 ≤ sizeLine; decide), fun u nu => ⟨(by show 2 ≤ sizeLine; decide), fun t nt => ?_⟩⟩
    have su := same_new nu (.tup [.int n, .int m])
    have st := same_new nt (.tup [.str (nmJ 10), .ref u])
    exact q t _ (S9.trans (su.trans st)) ⟨u, st _ _ upd_same, upd_same⟩
  · refine ⟨_, rfl, rfl, _, rfl, iteF ?_⟩
    refine ⟨_, rfl, rfl, _, rfl, iteF ?_⟩
    refine ⟨_, rfl, rfl, _, rfl, iteF ?_⟩
    refine ⟨_, rfl, rfl, _, rfl, iteT ?_⟩
    have h9 := S9 _ _ e2
    refine ⟨_, rfl, _, rfl, rfl, ec, dd, _, _, e1, h9, by rfl, ?_⟩
    refine ⟨(by show 2 ≤ sizeLine; decide), fun t nt => ?_⟩
    exact q t _ (S9.trans (same_new nt _)) upd_same
  · have nj : ∀ {z : Str}, (nmJ 8 ≠ z ∧ nmJ 9 ≠ z) → nmJ j ≠ z := fun h => by
      rcases hj with rfl | rfl
      · exact h.1
      · exact h.2
    refine ⟨_, rfl, rfl, _, rfl, ?_⟩
    rw [ne (nj ⟨by decide +kernel, by decide +kernel⟩)]
    refine iteF ?_
    refine ⟨_, rfl, rfl, _, rfl, ?_⟩
    rw [ne (nj ⟨by decide +kernel, by decide +kernel⟩)]
    refine iteF ?_
    refine ⟨_, rfl, rfl, _, rfl, ?_⟩
    rw [ne (nj ⟨by decide +kernel, by decide +kernel⟩)]
    refine iteF ?_
    refine ⟨_, rfl, rfl, _, rfl, ?_⟩
    rw [ne (nj ⟨by decide +kernel, by decide +kernel⟩)]
    refine iteF ?_
    refine ⟨_, rfl, (by show 2 ≤ sizeLine; decide), fun p11 n11 => ?_⟩
    have S11 := S9.trans (same_new n11 (.tup [.str "samples", .str "deed"]))
    refine ⟨p11, _, rfl, .inr (.inl (.inl upd_same)), rfl, by rfl, _, rfl, ?_⟩
    have hin : inV (V.str (nmJ j)) [.str "samples", .str "deed"] = true := by rcases hj with rfl | rfl <;> decide +kernel
    simp only [hin, if_true]
    have h11 := S11 _ _ e2
    refine ⟨_, rfl, _, rfl, rfl, ec, dd, _, _, e1, h11, by rfl, ?_⟩
    refine ⟨(by show 2 ≤ sizeLine; decide), fun t nt => ?_⟩
    exact q t _ (S11.trans (same_new nt _)) upd_same
/-- how it was refused, told -/
def echW (K : PySem.W.Frag) (mg : Str → Option Value) (Q : VK) : XK := fun cls d H' => ∃ (CU : Addr) (j : Nat) (R : Hp → Addr → Prop), WordC K mg CU j ∧ cls = .ref CU ∧ tellsJ j d H' R ∧ ∀ (t : Addr) (H2 : Hp), Same H' H2 → R H2 t → Q (.ref t) H2
/-- _law_word: ("", what is told), or how it was refused -/
def TTw (K : PySem.W.Frag) (mg : Str → Option Value) : (XK → Hp → VK → Prop) → Hp → VK → Prop := fun tl H Q => ∀ D, H D = none → ∀ post : VK,
  (∀ v H', H' D = some (.lst []) → (∀ (t : Addr) (H2 : Hp), Stp D H' H2 → H2 t = some (.tup [.str "", v]) → Q (.ref t) H2) → post v H') → tl (echW K mg Q) (upd H D (.lst [])) post
theorem word_gives {q : Str} (B : Bn X.mg) {cS : Addr} (mS : X.mg "SayError" = some (.ref cS)) : LamX.GivesTo X nLWo "_law_word" (defScope sLWo) g cdg (defBody sLWo) "_law_work" q (TTw X.K X.mg) := by
  intro f c' s H Q tl act hc h
  refine ⟨_, pss_cons (ps_set (i := 1) scLWo.nd rfl (.inl rfl) (pe_lst pa_nil))
    (pss_cons (ps_try_as (X := cxLWo X g cdg s H) (i := 2) (c := .ref cS) (Wout := fun _ _ _ _ => False)
        (tb := fun W D σ H => ∃ Ech : XK, (∀ cls d σ' H', Ech cls d H' → σ'.length = 6 → W cls d σ' H') ∧ tDrop (tBM X.K "list" rAppend (tVar 1) (tCons (fun σZ HZ Q => σZ[0]? = some (some (.ref f)) ∧ HZ c' = some (LamX.CodeO c' q) ∧ tl Ech HZ Q) tNil)) D σ H)
        (ts := fun a' cls d D σ H1 => ∀ oe pn, Zc cls d oe → (∃ vs, oe.data = .fields vs) → ∃ t : TS, PSs ((cxLWo X g cdg s H).suite a' ((a', oe) :: pn)) suLWo t ∧ t D σ H1)
        rfl rfl scLWo.nd rfl rfl ⟨by rfl, by decide, .inl mS⟩ LamX.takes0
        (fun W pn xe tk _ => ?_)
        (fun a oe cls d pn hz hf => ?_))
    (pss_one (ps_ret (pe_tup (pa_cons pe_str (pa_cons (pe_ix ix_list (pv 1) pe_int (fun _ _ => rfl)) pa_nil)))))), ?_⟩
  · refine ⟨fun pins s' σ H' D I h' => ?_⟩
    obtain ⟨Ech, hW, h1⟩ := h'
    have tk6 : Takes ((cxLWo X g cdg s H).tr pn xe) (fun cls d σ H => σ.length = 6 → W cls d σ H) := takes_len rfl tk
    exact (pss_one (ps_expr (pe_bm PySem.F.plainAttrs_list PySem.F.slot_list_append PySem.F.type_list_append mt_append (pv 1) (pa_cons (act (fun cls d σ H => σ.length = 6 → W cls d σ H) pn xe Ech _ _ tk6 hW) pa_nil)))).run pins s' σ H' D I h1
  · refine ⟨fun pins s' σ H' D I h' => ?_⟩
    obtain ⟨t, ht, q1⟩ := h' oe pn hz hf
    exact ht.run pins s' σ H' D I q1
  · refine ⟨(by show 0 ≤ sizeLine; decide), fun D hD => ?_⟩
    refine ⟨echW X.K X.mg Q, fun cls d σ' H' he hl => ?_, _, rfl, .inl ⟨rfl, _, .inl (.inl upd_same)⟩, rfl, by rw [upd_ne (ne_of_none hc hD)]; exact hc, h D hD _ fun v H' hv k => ?_⟩
    · obtain ⟨CU, j, xs, WC, rfl, hT, k⟩ := he
      obtain ⟨c2, e2, xS⟩ := WC.say
      rw [mS] at e2
      cases e2
      refine ⟨true, xS, fun _ a ha oe pn hz hf => ?_, fun z => Bool.noConfusion z⟩
      obtain ⟨t, ht, q1⟩ := word_suite (g := g) (cdg := cdg) (s := s) (H := H) B WC a oe _ _ pn hz hf
      exact ⟨t, ht, q1 xs _ σ' H' rfl hl ha hT k⟩
    · refine ⟨D, _, _, rfl, rfl, hv, (by show 0 < sizeLine; decide), ?_⟩
      refine ⟨_, rfl, D, _, _, v, rfl, rfl, .inl (.inl upd_same), rfl, ?_⟩
      refine ⟨(by show 2 ≤ sizeLine; decide), fun t nt => ?_⟩
      exact k t _ ((stp_at _).trans (.of (same_new nt _))) upd_same
end
end Say
namespace Say
open PySem PySem.Spec PyProof.Rows L2
/-! ### what a lambda's making leaves -/
theorem KT.extN {H H' : Hp} (e : LamX.ExtN H H') : KT H H' := KT.by fun t u h hu => e t _ h (fun ps z => by rcases hu with ⟨_, rfl⟩ | ⟨_, _, rfl⟩ <;> cases z)
theorem RowAt.extN {K : PySem.W.Frag} {H H' : Hp} {r a : Addr} {ns : List Int} (R : RowAt K H r a ns) (e : LamX.ExtN H H') : RowAt K H' r a ns := by
  obtain ⟨⟨i, c, m, q, b⟩, sc, le⟩ := R
  refine ⟨⟨i, c, m, e _ _ q (fun ps z => by cases z), b⟩, ?_, le⟩
  rcases sc with (sc | ⟨o, sc⟩) | sc
  · exact .inl (.inl (e _ _ sc (fun ps z => by cases z)))
  · exact .inl (.inr ⟨o, e _ _ sc (fun ps z => by cases z)⟩)
  · exact .inr sc
theorem tabs_stp {Tt : List (Addr × Str)} {H H' : Hp} {r a : Addr} (t : LamX.Tabs Tt H) (w : RowIn H r a) (e : Stp r H H') : LamX.Tabs Tt H' := fun p hp => by
  obtain ⟨i, c, m, q, _⟩ := w
  obtain ⟨ps, h1, h2, h3⟩ := t p hp
  refine ⟨ps, e _ _ h1 (ne_of h1 q (by intro z; cases z)), h2, fun pos cv hc => ?_⟩
  obtain ⟨c', e1, e2⟩ := h3 pos cv hc
  exact ⟨c', e1, e _ _ e2 (ne_of e2 q (by intro z; unfold LamX.CodeO at z; cases z))⟩
theorem same_fresh {H H' : Hp} {D : Addr} {o : HO} (e : Same H H') (h : H D = none) : Same H (upd H' D o) := fun b u q => by
  rw [upd_ne (ne_of_none q h)]
  exact e b u q
theorem same_stp {H H' H2 : Hp} {D : Addr} (e : Same H H') (h : H D = none) (s : Stp D H' H2) : Same H H2 := fun b u q => s b u (e b u q) (ne_of_none q h)
end Say
namespace Say
open PySem PySem.Spec PyProof.Rows L2
/-- what the law's own saying hands back -/
def saidV (rs : List Rule) (es : List Exc) (wd : List Nat) : List V := match saidM rs es wd with
  | some s => [.str (T []), .str (T s)]
  | none => [.str (Str.ofString "unsaid"), optI (W rs wd).2]
/-- what is said are capitals, three a letter at the most -/
theorem say_caps {L : List Nat} {rs : List Rule} (ho : ∀ ρ ∈ rs, RuleOk L ρ) (hL : LetOk L) {wd so : List Nat} (h : sayW rs wd = some so) : (∀ c ∈ so, 65 ≤ c ∧ c ≤ 90) ∧ so.length ≤ 3 * (wd.length + 1) := by
  unfold sayW at h
  by_cases e : (W rs wd).2 = none
  · rw [if_pos e] at h
    have h := (Option.some.inj h).symm
    subst h
    have hl : (W rs wd).1.length ≤ wd.length + 1 := wk_len rs (sgn wd) (wd.length + 1) 1
    have hk : ∀ k ∈ (W rs wd).1.map (fun s : Nat × Nat => s.2), k < rs.length := fun k hk => by
      obtain ⟨st, hst, rfl⟩ := List.mem_map.mp hk
      exact wk_lt _ _ st hst
    have h3 := flat_len (fun ρ hρ => (ho ρ hρ).rl hL) _ hk
    rw [List.length_map] at h3
    refine ⟨fun c hc => ?_, by omega⟩
    obtain ⟨l, hl, hcl⟩ := List.mem_flatten.mp hc
    obtain ⟨k, hkm, rfl⟩ := List.mem_map.mp hl
    have hkl := hk k hkm
    rw [ruleAt_eq (List.getElem?_eq_getElem hkl)] at hcl
    exact (ho _ (List.getElem_mem hkl)).so c hcl
  · rw [if_neg e] at h
    cases h
theorem said_stuck' {rs : List Rule} {es : List Exc} {wd : List Nat} (h : saidM rs es wd = none) : ∃ p, (W rs wd).2 = some p := by
  cases hq : (W rs wd).2 with
  | some p => exact ⟨p, rfl⟩
  | none =>
    unfold saidM at h
    cases hf : es.find? fun e => decide (e.1 = wd) with
    | some e => rw [hf] at h; cases h
    | none =>
      rw [hf] at h
      have h : sayW rs wd = none := h
      unfold sayW at h
      rw [if_pos hq] at h
      cases h
end Say
namespace Say
open PySem PySem.Spec PyProof.Rows L2
theorem Same.seqT {K : PySem.W.Frag} {H H' : Hp} {a : Addr} {xs : List V} (e : Same H H') (h : SqT K H a xs) : SqT K H' a xs := by
  rcases h with (h | ⟨o, h⟩) | h
  · exact .inl (.inl (e _ _ h))
  · exact .inl (.inr ⟨o, e _ _ h⟩)
  · exact .inr h
mutual
theorem dp_same {K : PySem.W.Frag} {H H' : Hp} (e : Same H H') : ∀ {v : V} {d : PyData}, Dp K H v d → Dp K H' v d
  | _, _, .non => .non
  | _, _, .bl b => .bl b
  | _, _, .int i => .int i
  | _, _, .str x => .str x
  | _, _, .lst h a => .lst (Same.seq e h) (dpa_same e a)
  | _, _, .tup h a => .tup (Same.seqT e h) (dpa_same e a)
theorem dpa_same {K : PySem.W.Frag} {H H' : Hp} (e : Same H H') : ∀ {vs : List V} {ds : List PyData}, DpAll K H vs ds → DpAll K H' vs ds
  | _, _, .nil => .nil
  | _, _, .cons h t => .cons (dp_same e h) (dpa_same e t)
end
theorem dpa_len {K : PySem.W.Frag} {H : Hp} : ∀ {vs : List V} {ds : List PyData}, DpAll K H vs ds → vs.length = ds.length
  | _, _, .nil => rfl
  | _, _, .cons _ t => by simp [dpa_len t]
theorem dpa_at {K : PySem.W.Frag} {H : Hp} : ∀ {vs : List V} {ds : List PyData}, DpAll K H vs ds → ∀ {i : Nat} {d : PyData}, ds[i]? = some d → ∃ v, vs[i]? = some v ∧ Dp K H v d
  | _, _, .nil, i, d, h => by cases h
  | _, _, .cons a t, 0, d, h => by
    cases h
    exact ⟨_, rfl, a⟩
  | _, _, .cons a t, i + 1, d, h => dpa_at t h
/-- data with no dicts, its lists not long -/
inductive Few : PyData → Prop
  | non : Few .none
  | bl (b : Bool) : Few (.bool b)
  | int (i : Int) : Few (.int i)
  | str (x : Str) : Few (.str x)
  | lst {ds : List PyData} : ds.length ≤ 1000 → (∀ d ∈ ds, Few d) → Few (.list ds)
  | tup {ds : List PyData} : ds.length ≤ 1000 → (∀ d ∈ ds, Few d) → Few (.tuple ds)
theorem depth_mem : ∀ {ds : List PyData} {d : PyData}, d ∈ ds → d.depth ≤ PyData.depthAll ds
  | x :: r, d, h => by
    unfold PyData.depthAll
    rcases List.mem_cons.mp h with rfl | h
    · exact Nat.le_max_left _ _
    · exact Nat.le_trans (depth_mem h) (Nat.le_max_right _ _)
end Say
namespace SrtT
open PySem PySem.Spec PyProof.Rows L2 SrtO
/-- by the first text, then by the second -/
def lexT (p q : Str × Str) : Bool := if p.1 = q.1 then decide (p.2.cps.toList < q.2.cps.toList) else decide (p.1.cps.toList < q.1.cps.toList)
theorem str_of {x y : Str} (h : x.cps.toList = y.cps.toList) : x = y := TL.ext_tl h
theorem lexT_no {p q : Str × Str} : lexT p q = false ↔ (q.1.cps.toList < p.1.cps.toList ∨ (p.1 = q.1 ∧ q.2.cps.toList ≤ p.2.cps.toList)) := by
  unfold lexT
  by_cases h : p.1 = q.1
  · rw [if_pos h]
    constructor
    · intro z
      exact .inr ⟨h, List.not_lt.mp (of_decide_eq_false z)⟩
    · rintro (z | ⟨_, z⟩)
      · rw [h] at z
        exact absurd z (List.lt_irrefl _)
      · exact decide_eq_false (List.not_lt.mpr z)
  · rw [if_neg h]
    constructor
    · intro z
      have le := List.not_lt.mp (of_decide_eq_false z)
      refine .inl ?_
      refine Decidable.byContradiction fun n => h (str_of (List.le_antisymm (List.not_lt.mp n) le))
    · rintro (z | ⟨e, _⟩)
      · exact decide_eq_false (List.not_lt.mpr (List.le_of_lt z))
      · exact absurd e h
theorem lexT_yes {p q : Str × Str} (h : lexT p q = true) : p.1.cps.toList < q.1.cps.toList ∨ (p.1 = q.1 ∧ p.2.cps.toList < q.2.cps.toList) := by
  unfold lexT at h
  by_cases e : p.1 = q.1
  · rw [if_pos e] at h
    exact .inr ⟨e, of_decide_eq_true h⟩
  · rw [if_neg e] at h
    exact .inl (of_decide_eq_true h)
theorem swoT {α : Type} (k : α → Str × Str) : Swo fun v u => lexT (k v) (k u) := by
  refine ⟨fun x y h => ?_, fun x y z h1 h2 => ?_⟩
  · refine lexT_no.mpr ?_
    rcases lexT_yes h with q | ⟨e, q⟩
    · exact .inl q
    · exact .inr ⟨e.symm, List.le_of_lt q⟩
  · refine lexT_no.mpr ?_
    rcases lexT_no.mp h1 with a | ⟨e, a⟩
    · rcases lexT_no.mp h2 with b | ⟨e', b⟩
      · exact .inl (List.lt_trans a b)
      · exact .inl (by rw [e']; exact a)
    · rcases lexT_no.mp h2 with b | ⟨e', b⟩
      · exact .inl (by rw [← e]; exact b)
      · exact .inr ⟨e'.trans e, List.le_trans a b⟩
/-- v is a tuple of the two texts -/
def IsTx (h : Heap) (v : Value) (x y : Str) : Prop := ∃ a o t u n, v = .ref a ∧ h.get? a = some o ∧ o.cls = .type "tuple" ∧ o.data = .seq #[.str x t, .str y u] n
theorem IsTx.keeps {h h' : Heap} {v : Value} {x y : Str} (p : IsTx h v x y) (k : ∀ b o, h.get? b = some o → o.cls = .type "tuple" → h'.get? b = some o) : IsTx h' v x y := by
  obtain ⟨a, o, t, u, n, e, obO, clC, dtD⟩ := p
  exact ⟨a, o, t, u, n, e, k _ _ obO clC, clC, dtD⟩
section
variable {prog : Program} {w : World} {A : Around} {E : Value → Shared → Prop} {s : Shared}
theorem tx_cmp {vs : List Value} {k : Value → Str × Str} (txP : ∀ v ∈ vs, IsTx s.heap v (k v).1 (k v).2) : Cmp prog w A s (tuples' true) (fun p => p.1 ∈ vs) (lt2 fun v u => lexT (k v) (k u)) := by
  intro p q hm hm'
  have h1 := txP _ hm
  have h2 := txP _ hm'
  show wpAny (model prog w) A (keyLt' (tuples' true) p.1 q.1) (fun r s' => s' = s ∧ r = lexT (k p.1) (k q.1)) (fun _ _ => False) s
  unfold lexT
  generalize (k p.1).1 = x at h1 ⊢
  generalize (k p.1).2 = y at h1 ⊢
  generalize (k q.1).1 = x' at h2 ⊢
  generalize (k q.1).2 = y' at h2 ⊢
  obtain ⟨a, o, t, u, n, e, obO, clC, dtD⟩ := h1
  obtain ⟨a', o', t', u', n', e', ho', hc', hd'⟩ := h2
  rw [e, e']
  refine PySem.W.kat_lt obO dtD ho' hd' ?_
  show PySem.W.KatLex prog w A true (decide (2 < 2)) _ [(.str x t, .str x' t'), (.str y u, .str y' u')] 0 s
  refine PySem.W.kat_cons (SeqAt.EqAt.str_str x t x' t' prog w _ _ ?_)
  refine PySem.W.kat_go (fun q1 => ?_) (fun q1 => ?_)
  · have ex : x = x' := by simpa using q1
    refine PySem.W.kat_yes (PySem.W.kat_cons (SeqAt.EqAt.str_str y u y' u' prog w _ _ ?_))
    refine PySem.W.kat_go (fun q2 => ?_) (fun q2 => ?_)
    · have ey : y = y' := by simpa using q2
      have q3 : (if x = x' then decide (y.cps.toList < y'.cps.toList) else decide (x.cps.toList < x'.cps.toList)) = false := by
        rw [if_pos ex, ey]
        exact decide_eq_false (List.lt_irrefl _)
      exact PySem.W.kat_yes (PySem.W.kat_nil ⟨rfl, q3.symm⟩)
    · have q3 : (if x = x' then decide (y.cps.toList < y'.cps.toList) else decide (x.cps.toList < x'.cps.toList)) = decide (y.cps.toList < y'.cps.toList) := if_pos ex
      refine PySem.W.kat_no (PySem.W.kat_one _ _ (PyProof.Rows.lt_str ?_))
      exact (show s = s ∧ decide (y.cps.toList < y'.cps.toList) = (if x = x' then decide (y.cps.toList < y'.cps.toList) else decide (x.cps.toList < x'.cps.toList)) from ⟨rfl, q3.symm⟩)
  · have ex : ¬ x = x' := by simpa using q1
    have q3 : (if x = x' then decide (y.cps.toList < y'.cps.toList) else decide (x.cps.toList < x'.cps.toList)) = decide (x.cps.toList < x'.cps.toList) := if_neg ex
    exact PySem.W.kat_no (oneLt_str ⟨rfl, q3.symm⟩)
theorem firsts_tx {h : Heap} : ∀ {vs : List Value}, (∀ v ∈ vs, ∃ x y, IsTx h v x y) → ∃ fs, PySem.W.KatTups h vs fs ∧ fs.length = vs.length ∧ ∀ f ∈ fs, ∃ x t, f = Value.str x t
  | [], _ => ⟨[], trivial, rfl, fun _ h => nomatch h⟩
  | v :: vs, txP => by
    obtain ⟨x, y, a, o, t, u, n, rfl, obO, clC, dtD⟩ := txP v (List.mem_cons_self ..)
    obtain ⟨fs, h1, h2, h3⟩ := firsts_tx (vs := vs) fun v inV => txP v (List.mem_cons_of_mem _ inV)
    refine ⟨.str x t :: fs, .cons obO clC dtD rfl h1, by simp [h2], fun f fresh0 => ?_⟩
    rcases List.mem_cons.mp fresh0 with rfl | fresh0
    · exact ⟨_, _, rfl⟩
    · exact h3 f fresh0
theorem tx_sortable {a : Addr} {vs : List Value} {k : Value → Str × Str} (h0 : 0 < vs.length) (txP : ∀ v ∈ vs, IsTx s.heap v (k v).1 (k v).2) (atA : ∀ o, s.heap.get? a = some o → o.cls ≠ .type "tuple") : SortableO prog w A s a vs fun v u => lexT (k v) (k u) := by
  intro h' keep
  have hp' : ∀ v ∈ vs, IsTx h' v (k v).1 (k v).2 := fun v hm => (txP v hm).keeps fun b o e c => keep b o (fun z => by subst z; exact atA o e c) e
  obtain ⟨fs, h1, h2, h3⟩ := firsts_tx fun v hm => ⟨_, _, hp' v hm⟩
  refine ⟨tuples' true, fun Q E isT => ?_, tx_cmp hp'⟩
  refine PySem.W.kat_kind (T := .type "str") h1 (by omega) (fun f hm => ?_) (by rfl) ?_
  · obtain ⟨x, t, rfl⟩ := h3 f hm
    exact PySem.W.Looks.now
  · have e : (Value.type "str" != Value.type "tuple") = true := by first | decide +kernel | rfl | decide
    rw [e]
    exact isT
end
/-- the texts of a tuple of two -/
def txOf (h : Heap) (v : Value) : Str × Str := match v with
  | .ref a => match h.get? a with
    | some o => match o.data with
      | .seq its _ => match its.toList with
        | [.str x _, .str y _] => (x, y)
        | _ => (Str.empty, Str.empty)
      | _ => (Str.empty, Str.empty)
    | none => (Str.empty, Str.empty)
  | _ => (Str.empty, Str.empty)
theorem IsTx.tx {h : Heap} {v : Value} {x y : Str} (p : IsTx h v x y) : txOf h v = (x, y) := by
  obtain ⟨a, o, t, u, n, rfl, obO, clC, dtD⟩ := p
  unfold txOf
  simp only [obO, dtD]
end SrtT
namespace Say
open PySem PySem.Spec PyProof.Rows L2 L2.DX
section
variable {X : Cx}
/-- d.items() of a dict with int and text keys -/
def rItemsK : V → List V → Hp → VK → Prop := fun x xs H Q => ∃ (a : Addr) (kvs : List (Key × V)), x = .ref a ∧ xs = [] ∧ H a = some (.dK kvs) ∧ ∀ p, H p = none → Q (.ref p) (upd H p (itemsO p a))
theorem mt_itemsK : MtR X "dict.items" rItemsK := by
  intro pn s σ H x xs v args Q I rx rxs h
  obtain ⟨a, kvs, rfl, rfl, atA, q⟩ := h
  cases rx
  cases rxs
  obtain ⟨szT, dtD, vs, kv, o, es, ep, obO, atI0, hdat, _⟩ := (show ObjOk X.prog X.w H s.heap a (.dK kvs) from I.hok a _ atA)
  refine DT.callItems (es := es) (ep := ep) dtD ⟨o, obO, atI0, hdat⟩ ?_
  have fresh0 : H s.heap.objs.size = none := I.hok.fresh (Nat.le_refl _)
  exact ⟨.ref s.heap.objs.size, upd H s.heap.objs.size (itemsO s.heap.objs.size a), I.laid (t' := s.toks) (fun b u e => Heap.get?_push_of_some _ e) (Nat.le_refl _) (itemsO_ok (Heap.get?_push_size _ rfl)), rfl, q _ fresh0⟩
abbrev entS (e : Str × Str) : Key × V := (Sum.inr e.1, V.str e.2)
/-- sorted(d.items()), keys and values texts -/
def rSortTx : List V → Hp → VK → Prop := fun vs H Q => ∃ (p a : Addr) (es : List (Str × Str)), vs = [.ref p] ∧ H p = some (itemsO p a) ∧ H a = some (.dK (es.map entS)) ∧ es.length ≤ 1000 ∧
  ∀ (H' : Hp) (l : Addr) (ps : List (Addr × Str × Str)), (∀ b o, H b = some o → H' b = some o) → (ps.map (·.2)).Perm es → (ps.map (·.2)).Pairwise (fun e f => SrtT.lexT f e = false) → H l = none → H' l = some (.lst (ps.map fun z => V.ref z.1)) →
    (∀ z ∈ ps, H' z.1 = some (.tup [.str z.2.1, .str z.2.2])) → Q (.ref l) H'
theorem key_txt {x : Str} {v : Value} (h : keyIs (Sum.inr x : Key) v = true) : ∃ t, v = .str x t := by
  rcases keyIs_shape h with ⟨i, t, e, rfl⟩ | ⟨y, t, e, rfl⟩
  · cases e
  · cases e
    exact ⟨t, rfl⟩
theorem ent_at {P : Program} {w : World} : ∀ {l : List DictEntry} {vs : List (Key × Value)} {ks : List (Str × Str)}, Pairs (mixKind P w) l vs → KV (ks.map entS) vs → Paired (fun (e : DictEntry) (k : Str × Str) => (∃ t, e.key = .str k.1 t) ∧ ∃ u, e.val = .str k.2 u) l ks
  | [], _, ks, .nil, kv => by
    cases ks with
    | nil => exact .nil
    | cons k r => cases kv
  | e :: l, _, ks, .cons h1 h2 h3, kv => by
    cases ks with
    | nil => cases kv
    | cons k r =>
      cases kv with
      | cons g1 g2 =>
        refine .cons ⟨?_, ?_⟩ (ent_at h3 g2)
        · obtain ⟨g3, g4⟩ := g1
          rw [← g3] at h1
          exact key_txt h1
        · rw [h2]
          exact g1.2
def adr : Value → Addr
  | .ref a => a
  | _ => 0
theorem cr_sortedTx (clC : X.calm = true) : CallR X (.builtin "sorted") rSortTx := by
  intro pn s σ H xs args Q I r h
  obtain ⟨p, a, ks, rfl, txP, atA, h64, q⟩ := h
  obtain rfl := Vals.ref1 r
  have vw : s.heap.IsItemsView p a := (show ObjOk X.prog X.w H s.heap p (itemsO p a) from I.hok p _ txP).1
  obtain ⟨szT, dtD, vs, kv, o, es, ep, obO, atI0, hdat, hKo, hPs, hn⟩ := (show ObjOk X.prog X.w H s.heap a (.dK (ks.map entS)) from I.hok a _ atA)
  have ents := ent_at hPs kv
  have l0 : es.size = ks.length := by rw [← Array.length_toList]; exact paired_len ents
  have noH : X.A.handled = none := I.ok.hd clC
  refine DT.sortedI (es := es) (ep := ep) noH vw ⟨o, obO, atI0, hdat⟩ (by rw [sizeLine_eq]; omega) fun h' tkn adrs kpT ltN lnT mdG => ?_
  have lenA : adrs.length = ks.length := by omega
  have nodupA : adrs.Nodup := List.Pairwise.imp (fun h => Nat.ne_of_lt h) mdG.rise
  have prs : ∀ (j : Nat) (b : Addr), adrs[j]? = some b → ∃ (e : Str × Str) (t u : Tok), ks[j]? = some e ∧ h'.get? b = some { cls := .type "tuple", data := .seq #[Value.str e.1 t, Value.str e.2 u] } := by
    intro j b atJ
    obtain ⟨en', hEn, gW⟩ := mdG.pairs j b atJ
    rw [← Array.getElem?_toList] at hEn
    obtain ⟨e, q1, ⟨t, q2⟩, ⟨u, q3⟩⟩ := paired_at ents hEn
    exact ⟨e, t, u, q1, by rw [gW, q2, q3]⟩
  have atL : (h'.push { cls := .type "list", data := .seq (adrs.map Value.ref).toArray }).get? h'.objs.size = some (seqObj "list" (adrs.map Value.ref).toArray 0) := Heap.get?_push_size _ rfl
  have kpS : ∀ b o, s.heap.get? b = some o → (h'.push { cls := .type "list", data := .seq (adrs.map Value.ref).toArray }).get? b = some o := fun b o e => Heap.get?_push_of_some _ (kpT b o e)
  have neL : ∀ b o, h'.get? b = some o → b ≠ h'.objs.size := fun b o e => Nat.ne_of_lt (Heap.lt_size e)
  generalize hh2 : h'.push { cls := .type "list", data := .seq (adrs.map Value.ref).toArray } = h2 at atL kpS ⊢
  have kpM : ∀ b o, h'.get? b = some o → h2.get? b = some o := fun b o e => by rw [← hh2]; exact Heap.get?_push_of_some _ e
  have pin : ∀ (j : Nat) (b : Addr) (e : Str × Str), adrs[j]? = some b → ks[j]? = some e → SrtT.IsTx h2 (.ref b) e.1 e.2 := by
    intro j b e atJ hEn
    obtain ⟨e', t, u, he', gW⟩ := prs j b atJ
    cases he'.symm.trans hEn
    exact ⟨b, _, t, u, 0, rfl, kpM _ _ gW, rfl, rfl⟩
  have allTx : ∀ v ∈ adrs.map Value.ref, SrtT.IsTx h2 v (SrtT.txOf h2 v).1 (SrtT.txOf h2 v).2 := by
    intro v hv'
    obtain ⟨b, hb, rfl⟩ := List.mem_map.mp hv'
    obtain ⟨j, atJ⟩ := List.mem_iff_getElem?.mp hb
    obtain ⟨e, t, u, hEn, _⟩ := prs j b atJ
    have := pin j b e atJ hEn
    rw [this.tx]
    exact this
  have mapTx : (adrs.map Value.ref).map (SrtT.txOf h2) = ks := by
    refine List.ext_getElem? fun j => ?_
    rw [List.getElem?_map, List.getElem?_map]
    cases atJ : adrs[j]? with
    | none =>
      have := List.getElem?_eq_none_iff.mp atJ
      rw [List.getElem?_eq_none (by omega)]
      rfl
    | some b =>
      obtain ⟨e, t, u, hEn, _⟩ := prs j b atJ
      rw [hEn]
      show some (SrtT.txOf h2 (.ref b)) = some e
      rw [(pin j b e atJ hEn).tx]
  refine wpAny_call_entry PyProof.Rows.slot_list_sort ⟨_, atL, rfl⟩ PyProof.Rows.entry_list_sort
    (SrtO.list_sort_ord (s := { s with heap := h2, toks := tkn }) (SrtT.swoT (SrtT.txOf h2)) atL (by rw [List.length_map, sizeLine_eq]; omega) (fun h2' => SrtT.tx_sortable (by omega) allTx fun o e => ?_) fun out o1 o2 => ⟨.none, rfl, ?_⟩) (PyProof.Rows.args_list_sort _)
  · have e : h2.get? h'.objs.size = some o := e
    rw [atL] at e
    cases e
    intro c
    exact absurd (Value.type.inj c) (by decide)
  · show EP X pn σ Q (.ref h'.objs.size) { s with heap := sortedHeap h2 h'.objs.size (adrs.map Value.ref) out.toArray, toks := tkn }
    have hrf : ∀ v ∈ out, v = .ref (adr v) := fun v inV => by
      obtain ⟨b, _, rfl⟩ := List.mem_map.mp (o2.perm.mem_iff.mp inV)
      rfl
    have kpF : ∀ b o, b ≠ h'.objs.size → h2.get? b = some o → (sortedHeap h2 h'.objs.size (adrs.map Value.ref) out.toArray).get? b = some o := fun b o hb e => (PyProof.Rows.sortedHeap_old hb (Heap.lt_size e)).trans e
    have kpAll : ∀ b o, s.heap.get? b = some o → (sortedHeap h2 h'.objs.size (adrs.map Value.ref) out.toArray).get? b = some o := fun b o e => kpF b o (neL _ _ (kpT b o e)) (kpS b o e)
    obtain ⟨sdF, atF⟩ := PyProof.Rows.sortedHeap_at (vs := adrs.map Value.ref) (out := out.toArray) atL
    have I1 : Inv X pn σ H { s with heap := sortedHeap h2 h'.objs.size (adrs.map Value.ref) out.toArray, toks := tkn } := I.kept (t' := tkn) kpAll
    have noL : H h'.objs.size = none := I.hok.fresh (Nat.le_of_lt ltN)
    have prm : ((out.map fun v => (adr v, SrtT.txOf h2 v)).map (·.2)).Perm ks := by
      have e := o2.perm.map (SrtT.txOf h2)
      rw [mapTx] at e
      rw [List.map_map]
      exact e
    have srtd0 : ((out.map fun v => (adr v, SrtT.txOf h2 v)).map (·.2)).Pairwise (fun e f => SrtT.lexT f e = false) := by
      rw [List.map_map, List.pairwise_map]
      exact o1
    have len0 : ((out.map fun v => (adr v, SrtT.txOf h2 v)).map fun z => V.ref z.1).length ≤ sizeLine := by
      have e := prm.length_eq
      rw [List.length_map] at e
      rw [List.length_map, sizeLine_eq]
      omega
    have rel : ∀ l : List Value, (∀ v ∈ l, v = .ref (adr v)) → Vals ((l.map fun v => (adr v, SrtT.txOf h2 v)).map fun z => V.ref z.1) l := by
      intro l
      induction l with
      | nil => intro _; exact .nil
      | cons v l ih =>
        intro inV
        refine .cons ?_ (ih fun u getU => inV u (List.mem_cons_of_mem _ getU))
        have := inV v (List.mem_cons_self ..)
        exact this
    have I2 : Inv X pn σ (upd H h'.objs.size (.lst ((out.map fun v => (adr v, SrtT.txOf h2 v)).map fun z => V.ref z.1))) { s with heap := sortedHeap h2 h'.objs.size (adrs.map Value.ref) out.toArray, toks := tkn } :=
      I1.take (h' := sortedHeap h2 h'.objs.size (adrs.map Value.ref) out.toArray) (t' := tkn) (fun b ob _ e => e) (I.fpOk (Nat.le_of_lt ltN) noL) ⟨len0, out, sdF, rel out hrf, atF⟩
    obtain ⟨H2, I3, g, tps⟩ := takeT (P := fun b vs => ∃ (j : Nat) (e : Str × Str), adrs[j]? = some b ∧ ks[j]? = some e ∧ vs = [.str e.1, .str e.2]) I adrs _ I2 nodupA fun b hb => by
      obtain ⟨j, atJ⟩ := List.mem_iff_getElem?.mp hb
      obtain ⟨e, t, u, hEn, gW⟩ := prs j b atJ
      have geB : s.heap.objs.size ≤ b := Nat.le_of_lt (mdG.above b hb)
      refine ⟨geB, ?_, [.str e.1, .str e.2], ⟨j, e, atJ, hEn, rfl⟩, fun H3 => ⟨(by rw [sizeLine_eq]; show 2 ≤ 16777216; omega), [Value.str e.1 t, Value.str e.2 u], .cons ⟨t, rfl⟩ (.cons ⟨u, rfl⟩ .nil), ⟨_, kpF _ _ (neL _ _ gW) (kpM _ _ gW), rfl, 0, rfl⟩⟩⟩
      rw [upd_ne (neL _ _ gW)]
      exact I.hok.fresh geB
    have grow : ∀ b o, H b = some o → H2 b = some o := fun b o e => g b o (by rw [upd_ne (ne_of_none e noL)]; exact e)
    refine ⟨.ref h'.objs.size, H2, I3, rfl, q H2 h'.objs.size _ grow prm srtd0 noL (g _ _ upd_same) fun z' hz' => ?_⟩
    obtain ⟨v, inV, rfl⟩ := List.mem_map.mp hz'
    obtain ⟨b, hb, e⟩ := List.mem_map.mp (o2.perm.mem_iff.mp inV)
    subst e
    obtain ⟨vs', ⟨j, e, j1, j2, ev⟩, hH⟩ := tps b hb
    show H2 b = some (.tup [.str (SrtT.txOf h2 (.ref b)).1, .str (SrtT.txOf h2 (.ref b)).2])
    rw [(pin j b e j1 j2).tx, hH, ev]
end
end Say
namespace Say
open PySem PySem.Spec PyProof.Rows L2
/-! ### the exceptions of a dict -/
def ent (e : Exc) : Key × V := (Sum.inr (T e.1), V.str (T e.2))
def putE (es : List Exc) (wd so : List Nat) : List Exc := if (es.any fun e => decide (e.1 = wd)) = true then es.map (fun e => if e.1 = wd then (e.1, so) else e) else es ++ [(wd, so)]
theorem key_eq {a b : List Nat} : ((Sum.inr (T a) : Key) = Sum.inr (T b)) ↔ a = b := ⟨fun h => T_inj (Sum.inr.inj h), fun h => by rw [h]⟩
theorem any_ent (wd : List Nat) : ∀ es : List Exc, ((es.map ent).any fun kv => decide (kv.1 = (Sum.inr (T wd) : Key))) = es.any fun e => decide (e.1 = wd)
  | [] => rfl
  | e :: r => by
    rw [List.map_cons, List.any_cons, List.any_cons, any_ent wd r]
    congr 1
    exact decide_eq_decide.mpr key_eq
theorem put_ent (es : List Exc) (wd so : List Nat) : putK (es.map ent) (Sum.inr (T wd) : Key) (V.str (T so)) = (putE es wd so).map ent := by
  unfold putK putE
  rw [any_ent]
  by_cases c : (es.any fun e => decide (e.1 = wd)) = true
  · rw [if_pos c, if_pos c, List.map_map, List.map_map]
    refine List.map_congr_left fun e _ => ?_
    show (if (ent e).1 = (Sum.inr (T wd) : Key) then ((ent e).1, V.str (T so)) else ent e) = ent (if e.1 = wd then (e.1, so) else e)
    by_cases h : e.1 = wd
    · rw [if_pos h, if_pos (show (ent e).1 = (Sum.inr (T wd) : Key) from key_eq.mpr h)]
      rfl
    · rw [if_neg h, if_neg (show ¬ (ent e).1 = (Sum.inr (T wd) : Key) from fun z => h (key_eq.mp z))]
  · rw [if_neg c, if_neg c, List.map_append]
    rfl
theorem putE_len (es : List Exc) (wd so : List Nat) : (putE es wd so).length ≤ es.length + 1 := by
  unfold putE
  split
  · rw [List.length_map]; omega
  · rw [List.length_append]; exact Nat.le_refl _
theorem putE_ok {L : List Nat} {es : List Exc} {wd so : List Nat} (h : ∀ e ∈ es, ExcOk L e) (h1 : ExcOk L (wd, so)) : ∀ e ∈ putE es wd so, ExcOk L e := by
  intro e he
  unfold putE at he
  split at he
  · obtain ⟨e', he', rfl⟩ := List.mem_map.mp he
    by_cases c : e'.1 = wd
    · rw [if_pos c, c]
      exact h1
    · rw [if_neg c]
      exact h e' he'
  · rcases List.mem_append.mp he with he | he
    · exact h e he
    · rw [List.mem_singleton.mp he]
      exact h1
theorem putE_nd {es : List Exc} {wd so : List Nat} (h : (es.map (·.1)).Nodup) : ((putE es wd so).map (·.1)).Nodup := by
  unfold putE
  split
  · rename_i c
    rw [List.map_map]
    have : es.map ((·.1) ∘ fun e : Exc => if e.1 = wd then (e.1, so) else e) = es.map (·.1) := List.map_congr_left fun e _ => by
      show (if e.1 = wd then (e.1, so) else e).1 = e.1
      split <;> rfl
    rw [this]
    exact h
  · rename_i c
    rw [List.map_append]
    refine List.nodup_append.mpr ⟨h, by simp, fun a ha b hb => ?_⟩
    intro z
    refine c (List.any_eq_true.mpr ?_)
    obtain ⟨e, he, rfl⟩ := List.mem_map.mp ha
    have hb : b = wd := by simpa using hb
    exact ⟨e, he, decide_eq_true (by rw [← hb]; exact z)⟩
/-- by its word there is one exception at most -/
theorem one_of {es : List Exc} (h : (es.map (·.1)).Nodup) {e f : Exc} (he : e ∈ es) (hf : f ∈ es) (hw : e.1 = f.1) : e = f := by
  obtain ⟨i, hi⟩ := List.mem_iff_getElem?.mp he
  obtain ⟨j, hj⟩ := List.mem_iff_getElem?.mp hf
  have e1 : (es.map (·.1))[i]? = some e.1 := by rw [List.getElem?_map, hi]; rfl
  have e2 : (es.map (·.1))[j]? = some e.1 := by rw [List.getElem?_map, hj, hw]; rfl
  have := nd_ix h e1 e2
  subst this
  exact Option.some.inj (hi.symm.trans hj)
theorem valV_ent {es : List Exc} (h : (es.map (·.1)).Nodup) {e : Exc} (he : e ∈ es) : valV (es.map ent) (Sum.inr (T e.1) : Key) = some (V.str (T e.2)) := by
  unfold valV
  cases hf : (es.map ent).find? fun kv => decide (kv.1 = (Sum.inr (T e.1) : Key)) with
  | none =>
    have := List.find?_eq_none.mp hf (ent e) (List.mem_map.mpr ⟨e, he, rfl⟩)
    exact absurd (decide_eq_true rfl) this
  | some kv =>
    have h1 := List.find?_some hf
    obtain ⟨f, hfm, rfl⟩ := List.mem_map.mp (List.mem_of_find?_eq_some hf)
    have h2 : f.1 = e.1 := key_eq.mp (of_decide_eq_true h1)
    rw [one_of h hfm he h2]
    rfl
theorem find_ent {es : List Exc} (h : (es.map (·.1)).Nodup) {e : Exc} (he : e ∈ es) : es.find? (fun f => decide (f.1 = e.1)) = some e := by
  cases hf : es.find? fun f => decide (f.1 = e.1) with
  | none => exact absurd (decide_eq_true rfl) (List.find?_eq_none.mp hf e he)
  | some f => rw [one_of h (List.mem_of_find?_eq_some hf) he (of_decide_eq_true (List.find?_some (p := fun f : Exc => decide (f.1 = e.1)) hf))]
/-! ### sorted -/
theorem uniq_sorted {α : Type} {r : α → α → Prop} (as : ∀ a b, r a b → ¬ r b a) : ∀ {l m : List α}, l.Perm m → l.Pairwise r → m.Pairwise r → l = m
  | [], m, p, _, _ => (List.Perm.eq_nil p.symm).symm
  | a :: l, [], p, _, _ => absurd p.length_eq (by simp)
  | a :: l, b :: m, p, h1, h2 => by
    have ha := p.mem_iff.mp (List.mem_cons_self (a := a) (l := l))
    have hb := p.mem_iff.mpr (List.mem_cons_self (a := b) (l := m))
    have e : a = b := by
      rcases List.mem_cons.mp ha with e | ha
      · exact e
      · rcases List.mem_cons.mp hb with e | hb
        · exact e.symm
        · exact absurd ((List.pairwise_cons.mp h1).1 b hb) (as _ _ ((List.pairwise_cons.mp h2).1 a ha))
    subst e
    rw [uniq_sorted as p.cons_inv (List.pairwise_cons.mp h1).2 (List.pairwise_cons.mp h2).2]
theorem lt_asym (a b : List Nat) (h : a < b) : ¬ b < a := List.lt_asymm h
theorem le_of_ltCps {a b : List Nat} (h : ltCps b a = false) : a ≤ b := by
  rw [ltCps_eq] at h
  exact List.not_lt.mp (of_decide_eq_false h)
theorem rising_pw : ∀ (l : List Str) (p : Str), risingS p l = true → (p :: l).Pairwise fun a b => a.cps.toList ≤ b.cps.toList
  | [], p, _ => List.pairwise_singleton _ _
  | x :: r, p, h => by
    have h : (!ltCps x.cps.toList p.cps.toList && risingS x r) = true := h
    rw [Bool.and_eq_true] at h
    have ih := rising_pw r x h.2
    have px : p.cps.toList ≤ x.cps.toList := le_of_ltCps (by simpa using h.1)
    refine List.pairwise_cons.mpr ⟨fun y hy => ?_, ih⟩
    rcases List.mem_cons.mp hy with rfl | hy
    · exact px
    · exact List.le_trans px ((List.pairwise_cons.mp ih).1 y hy)
theorem sortedS_pw : ∀ {l : List Str}, sortedS l = true → l.Pairwise fun a b => a.cps.toList ≤ b.cps.toList
  | [], _ => .nil
  | x :: r, h => rising_pw r x h
def wordsS (es : List Exc) : List Str := es.map fun e => T e.1
theorem strict_words {es : List Exc} (up : es.Pairwise fun e f => e.1 < f.1) : (wordsS es).Pairwise fun a b => a.cps.toList < b.cps.toList := by
  unfold wordsS
  rw [List.pairwise_map]
  exact up
theorem strict_of {l : List Str} (h : l.Pairwise fun a b => a.cps.toList ≤ b.cps.toList) (nd : l.Nodup) : l.Pairwise fun a b => a.cps.toList < b.cps.toList := by
  refine List.Pairwise.imp_of_mem (fun {a b} _ _ h => ?_) (List.Pairwise.and h nd)
  obtain ⟨h1, h2⟩ := h
  refine Decidable.byContradiction fun n => h2 (TL.ext_tl (List.le_antisymm h1 (List.not_lt.mp n)))
theorem nd_strict {l : List Str} (h : l.Pairwise fun a b => a.cps.toList < b.cps.toList) : l.Nodup := by
  refine List.Pairwise.imp (fun {a b} h => ?_) h
  intro z
  rw [z] at h
  exact List.lt_irrefl _ h
theorem sorted_keys {es es' : List Exc} {ys : List Str} (hp : es'.Perm es) (up : es'.Pairwise fun e f => e.1 < f.1) (hy : ys.Perm (wordsS es)) (hs : sortedS ys = true) : ys = wordsS es' := by
  have s' := strict_words up
  have p2 : ys.Perm (wordsS es') := hy.trans (hp.symm.map fun e : Exc => T e.1)
  exact uniq_sorted (r := fun a b : Str => a.cps.toList < b.cps.toList) (fun a b h => lt_asym _ _ h) p2 (strict_of (sortedS_pw hs) (p2.nodup_iff.mpr (nd_strict s'))) s'
def tt (e : Exc) : Str × Str := (T e.1, T e.2)
def bk (z : Str × Str) : Exc := (z.1.cps.toList, z.2.cps.toList)
theorem tt_bk (z : Str × Str) : tt (bk z) = z := by
  show (T z.1.cps.toList, T z.2.cps.toList) = z
  rw [T_list, T_list]
theorem bk_tt (e : Exc) : bk (tt e) = e := rfl
theorem sort_exc {es : List Exc} (nd : (es.map (·.1)).Nodup) {qs : List (Str × Str)} (hp : qs.Perm (es.map tt)) (hs : qs.Pairwise fun e f => SrtT.lexT f e = false) :
    qs = (qs.map bk).map tt ∧ (qs.map bk).Perm es ∧ (qs.map bk).Pairwise fun e f => e.1 < f.1 := by
  have e1 : qs = (qs.map bk).map tt := by
    rw [List.map_map]
    conv => lhs; rw [← List.map_id qs]
    exact List.map_congr_left fun z _ => (tt_bk z).symm
  have e2 : (qs.map bk).Perm es := by
    have := hp.map bk
    rw [List.map_map] at this
    have e3 : es.map (bk ∘ tt) = es := by
      conv => rhs; rw [← List.map_id es]
      exact List.map_congr_left fun e _ => rfl
    rwa [e3] at this
  refine ⟨e1, e2, ?_⟩
  have nd2 : ((qs.map bk).map (·.1)).Nodup := (e2.map (·.1)).nodup_iff.mpr nd
  rw [List.pairwise_map]
  have nd3 : qs.Pairwise fun a b => ¬ (bk a).1 = (bk b).1 := by
    have : ((qs.map bk).map (·.1)).Pairwise (· ≠ ·) := nd2
    rw [List.pairwise_map, List.pairwise_map] at this
    exact this
  refine List.Pairwise.imp_of_mem (fun {a b} _ _ h => ?_) (List.Pairwise.and hs nd3)
  obtain ⟨h1, h2⟩ := h
  rcases SrtT.lexT_no.mp h1 with q | ⟨q, _⟩
  · exact q
  · exact absurd (congrArg (fun z : Str => z.cps.toList) q.symm) h2
end Say
namespace Say
open PySem PySem.Spec PyProof.Rows L2
theorem paired_map {α β γ : Type} {F : α → β → Prop} {f : γ → α} {g : γ → β} : ∀ {l : List γ}, (∀ z ∈ l, F (f z) (g z)) → Paired F (l.map f) (l.map g)
  | [], _ => .nil
  | z :: l, h => .cons (h z (List.mem_cons_self ..)) (paired_map fun y hy => h y (List.mem_cons_of_mem _ hy))
theorem strOk_T {l : List Nat} (h : ∀ c ∈ l, c < 1114112) : PyData.strOk (T l) = true := by
  show l.toArray.all (· < 0x110000) = true
  rw [List.all_toArray, List.all_eq_true]
  intro c hc
  exact decide_eq_true (h c hc)
theorem shaped_two {x y : PyData} (hx : x.canLay0 = true) (hy : y.canLay0 = true) (dx : x.depth = 0) (dy : y.depth = 0) : SeqAt.shaped (.tuple [x, y]) = true := by
  unfold SeqAt.shaped
  rw [Bool.and_eq_true]
  refine ⟨?_, ?_⟩
  · show PyData.canLayAll0 [x, y] = true
    simp [PyData.canLayAll0, hx, hy]
  · refine decide_eq_true ?_
    show PyData.depthAll [x, y] + 1 ≤ 64
    simp [PyData.depthAll, dx, dy]
/-- the row stays where all but a dict does -/
theorem RowAt.stpD {K : PySem.W.Frag} {H H' : Hp} {r a F : Addr} {ns : List Int} {kvs : List (Key × V)} (R : RowAt K H r a ns) (hF : H F = some (.dK kvs)) (e : Stp F H H') : RowAt K H' r a ns := by
  obtain ⟨⟨i', c', m', q', b'⟩, sc, le⟩ := R
  refine ⟨⟨i', c', m', e _ _ q' (ne_of q' hF (by intro z; cases z)), b'⟩, ?_, le⟩
  rcases sc with (sc | ⟨o, sc⟩) | sc
  · exact .inl (.inl (e _ _ sc (ne_of sc hF (by intro z; cases z))))
  · exact .inl (.inr ⟨o, e _ _ sc (ne_of sc hF (by intro z; cases z))⟩)
  · exact .inr sc
end Say
/-! a lambda of one parameter with a number as its default, handed to a def -/
namespace LamD
open PySem PySem.Spec PyProof.Rows L2 LamX
/-- its own name is the parameter alone, which the maker doesn't know -/
structure Par (N : List Str) (sc own : Scope) (a : Str) : Prop where
  kind : own.kind = .function
  co : own.isCoroutine = false
  gen : own.isGenerator = false
  par : own.names.lookup a = some .local
  loc : ∀ y ∈ own.names, y.2 ≠ .cell ∧ (y.2 = .local → y.1 = a)
  free : ∀ y ∈ own.names, y.2 = .free → sc.names.lookup y.1 = some .cell ∨ sc.names.lookup y.1 = some .free
  out : a ∉ N
def parB (N : List Str) (sc own : Scope) (a : Str) : Bool :=
  decide (own.kind = .function) && (!own.isCoroutine && (!own.isGenerator && (decide (own.names.lookup a = some .local) && (decide (a ∉ N) && own.names.all fun y =>
    !decide (y.2 = .cell) && ((!decide (y.2 = .local) || decide (y.1 = a)) && (!decide (y.2 = .free) || (decide (sc.names.lookup y.1 = some .cell) || decide (sc.names.lookup y.1 = some .free))))))))
theorem par_by {N : List Str} {sc own : Scope} {a : Str} (h : parB N sc own a = true) : Par N sc own a := by
  unfold parB at h
  simp only [Bool.and_eq_true, Bool.or_eq_true, Bool.not_eq_true', decide_eq_true_eq, decide_eq_false_iff_not, List.all_eq_true] at h
  obtain ⟨g1, g2, g3, g4, g5, g6⟩ := h
  refine ⟨g1, g2, g3, g4, fun y hy => ⟨(g6 y hy).1, fun e => ?_⟩, fun y hy e => ?_, g5⟩
  · rcases (g6 y hy).2.1 with z | z
    · exact absurd e z
    · exact z
  · rcases (g6 y hy).2.2 with z | z
    · exact absurd e z
    · exact z
section
variable {X : Cx} {pins : List (Addr × Obj)} {σ : L2.St} {H HZ : Hp} {s s1 : Shared}
section
variable {f : Addr}
/-- an address that the frame knows nothing of -/
def NewF (X : Cx) (pins : List (Addr × Obj)) (f : Addr) : Prop := X.s_0.heap.objs.size ≤ f ∧ f ≠ X.env.locals ∧ (∀ x c, X.env.cells.lookup x = some c → c ≠ f) ∧ ∀ p ∈ X.pn ++ pins, p.1 ≠ f
theorem new_of (I : Inv X pins σ H s) (h : s.heap.objs.size ≤ f) : NewF X pins f := by
  have lt : ∀ {b o}, s.heap.get? b = some o → b ≠ f := fun e z => by
    rw [z] at e
    exact Nat.lt_irrefl _ (Nat.lt_of_lt_of_le (Heap.lt_size e) h)
  refine ⟨Nat.le_trans I.sz h, fun z => ?_, fun x c e => ?_, fun p hp => lt (I.pin p hp).1⟩
  · have := I.lt
    rw [← z] at this
    exact Nat.lt_irrefl _ (Nat.lt_of_lt_of_le this h)
  · obtain ⟨v, o, ho, _⟩ := I.cell x c e
    exact lt ho
end
theorem Par.has {own : Scope} {a : Str} (L : Par X.N X.env.scope own a) (ok : X.Ok) : ∀ y ∈ own.names, y.2 = .free → ∃ c, X.env.cells.lookup y.1 = some c := fun y hy e =>
  (L.free y hy e).elim (fun k => ok.has _ (.inl k)) fun k => ok.has _ (.inr k)
/-- the lambda's object, its default at D -/
abbrev dObj (X : Cx) (params : Arguments) (body : Expr) (own : Scope) (D : Addr) (doc pm : Value) (c' : Addr) (ctv : Value) : Obj :=
  PySem.W.kdv_obj "<lambda>" (X.env.qual ++ "<lambda>") params (.expr body) own (cloFrom X.env.cells own.names []) (.ref D) doc pm c' ctv
/-- made: a code object that is new or found in the table, and the tuple of the default -/
theorem make {Ts : List (Addr × Str)} {c P : Addr} {params : Arguments} {body de : Expr} {own : Scope} {pos : Pos} {z : Int} {Q : Value → Shared → Prop} (I : Inv X pins σ H s) (TB : TabB X.base X.mg c P) (hcode : X.env.code = .ref c)
    (hm : (P, X.env.qual ++ "<lambda>") ∈ Ts) (hu : ∀ p ∈ Ts, p.1 = P → p.2 = X.env.qual ++ "<lambda>") (hT : Tabs Ts H) (hde : params.defaults = [de]) (hkw : params.kw_defaults = []) (hz : PE X de (tC (.int z))) (hfree : ∀ y ∈ own.names, y.2 = .free → ∃ c, X.env.cells.lookup y.1 = some c)
    (h : ∀ (f c' D : Addr) (u doc pm ctv : Value) (H1 : Hp) (s' : Shared), Inv X pins σ H1 s' → ExtN H H1 → Tabs Ts H1 → s'.heap.get? f = some (dObj X params body own D doc pm c' ctv) → H1 f = none → f ∉ frs X.stack →
      s'.heap.get? D = some (PySem.W.kdv_tup [u]) → H1 D = none → D ∉ frs X.stack → NewF X pins f → NewF X pins D → f ≠ D → H f = none → H1 c' = some (CodeO c' (X.env.qual ++ "<lambda>")) → Q (.ref f) s') :
    wpAny (model X.prog X.w) X.A (eval (.Lambda params body own pos) X.env) Q X.xe s := by
  refine PySem.W.kdv_lam (by rw [hde]; rfl) hkw ?_
  rw [hde]
  refine PySem.W.kdv_all1 (thn (hz.run pins s σ H (fun v H0 => H0 = H) I rfl) fun u sa ⟨v, H0, Ia, _, eH⟩ => PySem.W.kdv_all0 ?_)
  subst eH
  rw [makeFunction_eq]
  simp only [List.zip_nil_right, List.filterMap_nil, List.isEmpty_nil, if_true, pure_bind, List.isEmpty_cons, Bool.false_eq_true, if_false]
  refine wpAny_bind (wpAny_newTextTuple ?_)
  -- the default's tuple
  have hDn : H0 sa.heap.objs.size = none := Ia.hok.fresh (Nat.le_refl _)
  have stk : ∀ {b : Addr} {hp : Heap} {σ' : L2.St} {H' : Hp} {tk : Nat} (J : Inv X pins σ' H' { sa with heap := hp, toks := tk }), hp.objs.size ≤ b → b ∉ frs X.stack := fun {b hp σ' H' tk} J hb m => by
    rcases List.mem_cons.mp (J.stkSub _ m) with e | e
    · have lt := J.lt
      rw [← e] at lt
      exact Nat.lt_irrefl _ (Nat.lt_of_lt_of_le lt hb)
    · exact J.nofs hb e
  have newD := new_of Ia (f := sa.heap.objs.size) (Nat.le_refl _)
  have frD := stk (hp := sa.heap) (tk := sa.toks) Ia (Nat.le_refl _)
  have Ib : Inv X pins σ H0 { sa with heap := sa.heap.push (PySem.W.kdv_tup [u]) } := Ia.kept (t' := sa.toks) fun _ _ e => Heap.get?_push_of_some _ e
  have atD : (sa.heap.push (PySem.W.kdv_tup [u])).get? sa.heap.objs.size = some (PySem.W.kdv_tup [u]) := Heap.get?_push_size _ rfl
  have szD : sa.heap.objs.size < (sa.heap.push (PySem.W.kdv_tup [u])).objs.size := by rw [Heap.size_push]; exact Nat.lt_succ_self _
  obtain ⟨ps, hP, ht, ha⟩ := hT _ hm
  have ltP : P < sa.heap.objs.size := Heap.lt_size (Ia.hok P _ hP)
  generalize hhb : sa.heap.push (PySem.W.kdv_tup [u]) = hb at Ib atD szD ⊢
  generalize sa.heap.objs.size = D at hDn frD newD atD szD ltP ⊢
  have hP' : hb.get? P = some { cls := .none, data := .fields ps } := Ib.hok P _ hP
  have bP : hb.BuiltinsAt X.mg P := TB.bm.keeps Ib.bk
  cases hc : codeAmong pos ps.toList with
  | none =>
    refine PySem.W.kdv_makeTail (s := { sa with heap := hb }) (closure_ok hfree) Ib.ok.glob (Ib.mod.glob.keeps Ib.bk) hcode (TB.code.keeps Ib.bk) hP' ht hc TB.gP bP fun c' ctv doc h' tk hx hge hlt hrec htb => ?_
    obtain ⟨c2, oc, vs, t, e2, hoc, hd, hv⟩ := hrec
    cases e2
    have hge : hb.objs.size ≤ c' := hge
    have nC : H0 c' = none := Ib.hok.fresh hge
    have I1 := inv_table (t' := tk) (more := #[rawInt pos.line, rawInt pos.col, .ref c']) (h' := h'.push (dObj X params body own D doc ((X.mg "__name__").getD .none) c' ctv)) Ib hP
      (fun b o n e => Heap.get?_push_of_some _ (hx b o n e)) (Heap.get?_push_of_some _ htb) hge ⟨oc, vs, t, Heap.get?_push_of_some _ hoc, hd, hv⟩
    have hE : ExtN H0 (upd (upd H0 P (.tbl (ps ++ #[rawInt pos.line, rawInt pos.col, .ref c']))) c' (CodeO c' (X.env.qual ++ "<lambda>"))) := fun b o e n => by
      rw [upd_ne (ne_of_none e nC), upd_ne fun y => n ps (Option.some.inj (e.symm.trans (by rw [y]; exact hP)))]
      exact e
    have toL : (ps ++ #[rawInt pos.line, rawInt pos.col, .ref c']).toList = ps.toList ++ [rawInt pos.line, rawInt pos.col, .ref c'] := by simp
    have nf1 : h'.objs.size ≠ c' := Nat.ne_of_gt hlt
    have nf2 : h'.objs.size ≠ P := Nat.ne_of_gt (Nat.lt_of_lt_of_le (Heap.lt_size hP') (Nat.le_trans hge (Nat.le_of_lt hlt)))
    refine h h'.objs.size c' D u doc ((X.mg "__name__").getD .none) ctv _ _ I1 hE (fun p hp => ?_) (Heap.get?_push_size _ rfl) ?_ (stk (hp := hb) (tk := sa.toks) Ib (by omega)) (Heap.get?_push_of_some _ (hx D _ (Nat.ne_of_gt ltP) atD)) ?_ frD (new_of Ib (show hb.objs.size ≤ _ by omega)) newD (show h'.objs.size ≠ D from Nat.ne_of_gt (Nat.lt_of_lt_of_le szD (Nat.le_trans hge (Nat.le_of_lt hlt)))) (Ib.hok.fresh (show hb.objs.size ≤ _ by omega)) upd_same
    · by_cases eP : p.1 = P
      · rw [hu p hp eP, eP]
        refine ⟨_, by rw [upd_ne (ne_of_none hP nC), upd_same], by rw [toL]; exact PySem.TriplesOk_snoc _ _ _ _ ht, fun p' cv hcv => ?_⟩
        rw [toL] at hcv
        rcases among_app _ ht hcv with y | y
        · obtain ⟨c0, y1, y2⟩ := ha p' cv y
          exact ⟨c0, y1, hE _ _ y2 codeO_ne⟩
        · exact ⟨c', y, upd_same⟩
      · obtain ⟨qs, y1, y2, y3⟩ := hT p hp
        refine ⟨qs, by rw [upd_ne (ne_of_none y1 nC), upd_ne eP]; exact y1, y2, fun p' cv hcv => ?_⟩
        obtain ⟨c0, y4, y5⟩ := y3 p' cv hcv
        exact ⟨c0, y4, hE _ _ y5 codeO_ne⟩
    · rw [upd_ne nf1, upd_ne nf2]
      exact Ib.hok.fresh (show hb.objs.size ≤ _ by omega)
    · rw [upd_ne (Nat.ne_of_lt (Nat.lt_of_lt_of_le szD hge)), upd_ne (Nat.ne_of_gt ltP)]
      exact hDn
  | some cv =>
    obtain ⟨c', e, hco⟩ := ha pos cv hc
    subst e
    refine PySem.W.kdv_makeTailHit (s := { sa with heap := hb }) (closure_ok hfree) Ib.ok.glob (Ib.mod.glob.keeps Ib.bk) hcode (TB.code.keeps Ib.bk) hP' ht hc bP fun ctv doc h' tk hx hsz => ?_
    have hsz : hb.objs.size ≤ h'.objs.size := hsz
    have I1 : Inv X pins σ H0 { sa with heap := h'.push (dObj X params body own D doc ((X.mg "__name__").getD .none) c' ctv), toks := tk } := Ib.kept (t' := tk) fun b o e => Heap.get?_push_of_some _ (hx b o e)
    exact h h'.objs.size c' D u doc ((X.mg "__name__").getD .none) ctv H0 _ I1 (ExtN.refl H0) hT (Heap.get?_push_size _ rfl) (Ib.hok.fresh hsz) (stk (hp := hb) (tk := sa.toks) Ib hsz) (Heap.get?_push_of_some _ (hx D _ atD)) hDn frD (new_of Ib hsz) newD (show h'.objs.size ≠ D from Nat.ne_of_gt (Nat.lt_of_lt_of_le szD hsz)) (Ib.hok.fresh hsz) hco
abbrev dEnv (X : Cx) (own : Scope) (L f c' : Addr) : Env := lamEnv X own L f c'
/-- its body's context, entered -/
theorem enter {A : Around} {outer : List Env} {E : XK} {own : Scope} {a : Str} {f c' : Addr} {h₁ : Heap} {tk : Nat} {m : Str → Option Value} (I : Inv X pins σ H s) (L : Par X.N X.env.scope own a) (e0 : Env0 X.prog X.w X.K X.mg X.base A outer s1 HZ) (hd : A.handled = none)
    (un : Un (frs X.stack) [] H HZ s.heap s1.heap) (hns : h₁.Ns s1.heap.objs.size m) (kp : ∀ b o, s1.heap.get? b = some o → h₁.get? b = some o) :
    Inv (lamCx X A outer s1 HZ E own f c') [] σ HZ { s1 with heap := h₁, toks := tk } := by
  have has := L.has I.ok
  -- a name that it captures has the maker's cell
  have cl1 : ∀ {y c}, (cloFrom X.env.cells own.names []).lookup y = some c → X.env.cells.lookup y = some c := fun {y c} e => by
    rcases cloFrom_mem (PySem.mem_of_lookup e) with z | ⟨z1, z2⟩
    · cases z
    · obtain ⟨c1, hc⟩ := has _ z1 rfl
      have hc : X.env.cells.lookup y = some c1 := hc
      rw [z2, hc]
      rfl
  have cl2 : ∀ {y}, own.names.lookup y = some .free → ∃ c, (cloFrom X.env.cells own.names []).lookup y = some c := fun {y} hl =>
    mem_lookup (cloFrom_has (cells := X.env.cells) (acc := []) (show (y, NameKind.free) ∈ own.names from PySem.mem_of_lookup hl))
  have cellK : ∀ {c : Addr} {v : Option Value}, H c = none → s.heap.IsCell c v → h₁.IsCell c v := fun {c v} n ⟨o, ho, od⟩ => by
    obtain ⟨sl, q⟩ := un.any ho n (by simp)
    exact ⟨_, kp _ _ q, od⟩
  have no : ∀ b : Addr, b ∉ (lamCx X A outer s1 HZ E own f c').ex := fun b z => absurd (show b ∈ ([] : List Addr) from z) (by simp)
  refine ⟨⟨e0.mod, L.kind, rfl, rfl, Nat.le_refl _, fun y z c e1 e2 => I.ok.inj y z c (cl1 e1) (cl1 e2), fun y hy => ?_, fun y c z _ => (by cases (show false = true from z)), fun _ => hd, Around.frames_deeper e0.frames, .inr ⟨rfl, rfl⟩, fun b z => absurd z (no b), e0.bs, e0.bsz, fun b _ _ => no b,
      fun b z => absurd z (no b), e0.funs, e0.frf⟩,
    rfl, e0.bare, Un.kept kp, ⟨_, hns, fun i y v e1 e2 e3 => ?_⟩, fun y c e => ?_, e0.hok.fresh (Nat.le_refl _), fun y c e => ?_, fun q hq => absurd (show q ∈ ([] : List (Addr × Obj)) ++ [] from hq) (by simp), e0.hok.kept kp, I.len⟩
  · have hy : own.names.lookup y = some .cell ∨ own.names.lookup y = some .free := hy
    exact hy.elim (fun z => absurd rfl (L.loc _ (PySem.mem_of_lookup z)).1) cl2
  · have e3 : Vis own y := e3
    rcases e3 with k | k | k
    · -- the parameter is no name of the maker's
      have ey : y = a := (L.loc _ (PySem.mem_of_lookup k)).2 rfl
      have e1 : X.N[i]? = some y := e1
      exact absurd (List.mem_of_getElem? e1) (by rw [ey]; exact L.out)
    · exact absurd rfl (L.loc _ (PySem.mem_of_lookup k)).1
    · obtain ⟨m', hn, hl⟩ := I.loc
      have vis : Vis X.env.scope y := (L.free _ (PySem.mem_of_lookup k) rfl).elim (fun k => .inr (.inl k)) fun k => .inr (.inr k)
      obtain ⟨w', r, q⟩ := hl i y v e1 e2 vis
      obtain ⟨c2, h2⟩ := cl2 k
      refine ⟨w', r, .inr ⟨.inr k, c2, h2, ?_⟩⟩
      rcases q with ⟨k', _⟩ | ⟨_, c3, e', z⟩
      · have k' : X.env.scope.names.lookup y = some .local := k'
        rcases L.free _ (PySem.mem_of_lookup k) rfl with k2 | k2 <;> rw [show X.env.scope.names.lookup y = _ from k2] at k' <;> cases k'
      · rw [cl1 h2] at e'
        cases e'
        exact cellK (I.freeC y _ (cl1 h2)) z
  · obtain ⟨w', z⟩ := I.cell y c (cl1 e)
    exact ⟨w', cellK (I.freeC y c (cl1 e)) z⟩
  · obtain ⟨v, o, ho, od⟩ := I.cell y c (cl1 e)
    exact un.free c o ho (I.freeC y c (cl1 e)) (by simp)
/-- called with nothing by the def that got it -/
theorem act {CXg : CXT} {Eg : XK} {Ng : List Str} {qg : Str} {sg : Scope} {g f c' D : Addr} {cdg doc pm ctv u : Value} {params : Arguments} {body : Expr} {own : Scope} {k i : Nat} {x a : Str} {pn : List (Addr × Obj)} {xe : Value → Shared → Prop} {W : WX} {E : XK} {tb : TE} {p1 p2 : Pos}
    (I : Inv X pins σ H s) (L : Par X.N X.env.scope own a) (hf : s.heap.get? f = some (dObj X params body own D doc pm c' ctv)) (hfn : H f = none) (hfr : f ∉ frs X.stack) (hD : s.heap.get? D = some (PySem.W.kdv_tup [u])) (hDn : H D = none) (hDr : D ∉ frs X.stack)
    (hbind : ∀ s : Shared, s.heap.get? D = some (PySem.W.kdv_tup [u]) → BindsTo s (PySem.W.kdv_fn "<lambda>" (X.env.qual ++ "<lambda>") params (.expr body) own (cloFrom X.env.cells own.names []) (.ref D) doc pm (.ref c') ctv) ⟨[], []⟩ [(a, u)])
    (tk : Takes ((cxOf CXg X.prog X.w X.K X.mg X.base Ng qg sg g cdg X.A X.stack s H Eg).tr pn xe) W) (hW : ∀ cls d σ' H', E cls d H' → W cls d σ' H') (hr : Room (k + 1) (X.A.deeper (envOfC qg sg s.heap.objs.size g cdg)))
    (hbody : ∀ (A : Around) (outer : List Env) (s : Shared) (H : Hp), Room k (A.deeper (lamEnv X own s.heap.objs.size f c')) → PE (lamCx X A outer s H E own f c') body tb)
    (hN : Ng[i]? = some x) (hv : Vis sg x) (hdb : (x == ("__debug__" : Str)) = false := by decide) (hcd : (x == ("__classdict__" : Str)) = false := by decide) :
    PE ((cxOf CXg X.prog X.w X.K X.mg X.base Ng qg sg g cdg X.A X.stack s H Eg).tr pn xe) (.Call (.Name x p1) [] [] p2)
      (fun σZ HZ Q => σZ[i]? = some (some (.ref f)) ∧ HZ c' = some (CodeO c' (X.env.qual ++ "<lambda>")) ∧ tb σ HZ Q) := by
  refine ⟨fun pinsZ sZ σZ HZ Q IZ ⟨hs, hc, ht⟩ => ?_⟩
  refine wpAny_Call_Name_kw (thn ((pe_var (pos := p1) (i := i) hN hv hdb hcd).run pinsZ sZ σZ HZ (fun v H1 => v = .ref f ∧ H1 = HZ) IZ ⟨.ref f, hs, rfl, rfl⟩) fun u' s1 ⟨v, H1, I1, r1, ev, eH⟩ => ?_)
  subst ev eH
  obtain rfl : u' = Value.ref f := r1
  have keep : ∀ {b : Addr} {o : Obj}, s.heap.get? b = some o → H b = none → b ∉ frs X.stack → s1.heap.get? b = some o := fun {b o} e n fr => I1.base.keep b _ e n fr fun z => nomatch (show b ∈ ([] : List Addr) from z)
  have of1 := keep hf hfn hfr
  refine PySem.W.callWith_F0 ⟨_, _, _, _, of1⟩ ?_
  have un : Un (frs X.stack) [] H H1 s.heap s1.heap := I1.base
  obtain ⟨⟨oc, vs, t, hoc, hdc, hvc⟩, _, _⟩ := I1.hok c' _ hc
  have rc : codeAny (model X.prog X.w) (X.A.deeper (envOfC qg sg s.heap.objs.size g cdg)) (.call (.ref f) ⟨[], []⟩) (CR (L2.CX X.prog X.w) (envOfC qg sg s.heap.objs.size g cdg :: X.stack) X.prog X.w H1 s1 Q E) s1 := by
    refine PySem.W.kla_callFunE hr.depth of1 rfl L.co L.gen rfl ⟨c', oc, vs, t, rfl, hoc, hdc, hvc⟩ (hbind s1 (keep hD hDn hDr) _ _ _ _ ?_)
    refine wpAny_newFunctionEnv (fun y hy => (L.loc y hy).1) (fun y hy => by rw [List.mem_singleton.mp hy]; exact L.par) (fun h₁ hns hsb => ⟨I1.nolimit.fresh _ hsb, ?_⟩) L.kind
    refine (?_ : codeAny _ _ (.expr body (lamEnv X own s1.heap.objs.size f c')) _ _)
    have kp : ∀ b o, s1.heap.get? b = some o → h₁.get? b = some o := fun b o e => hsb.extBut b o (Nat.ne_of_lt (Heap.lt_size e)) (Heap.get?_push_of_some _ e)
    have J := enter (A := X.A.deeper (envOfC qg sg s.heap.objs.size g cdg)) (outer := envOfC qg sg s.heap.objs.size g cdg :: X.stack) (E := E) (f := f) (c' := c') (tk := s1.toks + ([(a, u)] : List (Str × Value)).length) I L I1.env0 hr.hd un hns kp
    exact PySem.W.kla_codeExpr (wpAny_mono ((hbody _ _ s1 H1 (hr.deeper _)).run [] _ _ H1 Q J ht) (fun v s' ⟨w', H', J', rv, q⟩ => ⟨w', H', J'.os, J'.bare, J'.base, J'.hok, rv, q⟩) fun _ _ hq => hq)
  have hx : Passes (L2.CX X.prog X.w) ((cxOf CXg X.prog X.w X.K X.mg X.base Ng qg sg g cdg X.A X.stack s H Eg).tr pn xe) E := passes_call tk hW
  refine wpAny_call (codeAny_mono rc fun r s' hq => ?_)
  match r, hq with
  | .error e, hq => exact hx pinsZ σZ H1 s1 e s' I1 hq
  | .ok (.ret u), hq => exact I1.after hq
  | .ok .next, hq => exact False.elim hq
  | .ok .brk, hq => exact False.elim hq
  | .ok .cont, hq => exact False.elim hq
end
section
variable {X : Cx}
/-- x(lambda a=z: body) -/
theorem pe_lamcall {Ts : List (Addr × Str)} {TT : (XK → Hp → VK → Prop) → Hp → VK → Prop} {x y a : Str} {g c P : Addr} {k : Nat} {pg : Arguments} {bg : List Stmt} {sg : Scope} {dV kV doc pm cdv ct oc : Value} {an od : Option Addr} {osl : Array (Option Value)} {Ng : List Str}
    {params : Arguments} {body de : Expr} {own : Scope} {t : XK → TE} {p lpos pos : Pos} {z : Int} (hg : Gl X x) (hm : X.mg x = some (.ref g)) (hk : PySem.W.keepIn X.K (.ref g) = true)
    (lk : X.K.lookup g = some ⟨oc, od, .func (PySem.W.fnOf x x pg bg sg dV kV doc pm an cdv ct), osl⟩) (hcg : PySem.W.codeIn X.K cdv x = true) (hb : L2.Binds X.K (PySem.W.fnOf x x pg bg sg dV kV doc pm an cdv ct) [y] []) (Sg : FnScope Ng [y] sg) (hNg : Ng[0]? = some y) (hva : Vis sg y)
    (hG : GivesTo X Ng x sg g cdv bg y (X.env.qual ++ "<lambda>") TT)
    (TB : TabB X.base X.mg c P) (hcode : X.env.code = .ref c) (hmT : (P, X.env.qual ++ "<lambda>") ∈ Ts) (hu : ∀ p ∈ Ts, p.1 = P → p.2 = X.env.qual ++ "<lambda>") (hr : Room (k + 2) X.A) (L : Par X.N X.env.scope own a) (hde : params.defaults = [de]) (hkw : params.kw_defaults = []) (hz : PE X de (tC (.int z)))
    (hbind : ∀ (u : Value) (D : Addr) (q : Str) (cl : List (Str × Addr)) (doc pm cv ctv : Value) (s : Shared), s.heap.get? D = some (PySem.W.kdv_tup [u]) → BindsTo s (PySem.W.kdv_fn "<lambda>" q params (.expr body) own cl (.ref D) doc pm cv ctv) ⟨[], []⟩ [(a, u)])
    (hbody : ∀ (A : Around) (outer : List Env) (s : Shared) (H : Hp) (E : XK) (f c' : Addr), Room k (A.deeper (lamEnv X own s.heap.objs.size f c')) → PE (lamCx X A outer s H E own f c') body (t E))
    (hdb : (x == ("__debug__" : Str)) = false := by decide) (hd : (y == ("__debug__" : Str)) = false := by decide) (hcd : (y == ("__classdict__" : Str)) = false := by decide) :
    PE X (.Call (.Name x p) [.Lambda params body own lpos] [] pos) (tLam Ts TT t) := by
  refine ⟨fun pins s σ H Q I ⟨hT, h⟩ => ?_⟩
  refine wpAny_Call_Name_kw (ld_glob I hg hm ?_ hdb)
  refine PySem.W.callWith_K (h₀ := X.base) I.ok.mod.kin hk ?_ (by rfl) (by rfl)
  refine (?_ : wpAny _ _ (spliced ((false, eval (.Lambda params body own lpos) X.env) :: backTo pos (starEach [] X.env))) _ _ s)
  refine Calls.spliced_cons (make I TB hcode hmT hu hT hde hkw hz (L.has I.ok) fun f c' D u doc' pm' ctv H1 s' I1 eN T1 hf hfn hfr hD hDn hDr _ _ _ _ hco => Calls.spliced_nil ⟨I1.kIn, ?_⟩)
  have rc : codeAny (model X.prog X.w) X.A (.call (.ref g) ⟨[.ref f], []⟩) (CR C8.CX0 X.stack X.prog X.w H1 s' Q C8.E0) s' := by
    refine run_ofS (N := Ng) (ps := [y]) (us := [.ref f]) (vs := [.ref f]) lk hcg Sg hr I1.env0 (hb s' [.ref f] I1.kIn rfl) (.cons rfl .nil) rfl fun hr' => ?_
    obtain ⟨t', ht', hq'⟩ := hG f c' s' H1 Q (fun E H' Q' => t E σ H' Q') (fun W pn xe E p1 p2 tk hW => act (i := 0) I1 L hf hfn hfr hD hDn hDr (fun s2 h2 => hbind u D _ _ _ _ _ _ s2 h2) tk hW hr' (fun A outer s H hr2 => hbody A outer s H E f c' hr2) hNg hva hd hcd) hco (h H1 eN T1)
    exact ⟨t', ht'.nox, hq'⟩
  refine wpAny_call (codeAny_mono rc fun r s2 hq => ?_)
  match r, hq with
  | .error e, hq => exact (show False from hq).elim
  | .ok (.ret u), hq => exact I1.after hq
  | .ok .next, hq => exact False.elim hq
  | .ok .brk, hq => exact False.elim hq
  | .ok .cont, hq => exact False.elim hq
end
end LamD
namespace Say
open PySem PySem.Spec PyProof.Rows L2 L2.DX
/-- said, told by _law_word: the book and the word in the slots i and j -/
theorem said_at {K : PySem.W.Frag} {mg : Str → Option Value} {CU b : Addr} {L wd : List Nat} {rs : List Rule} {es : List Exc} {H7 : Hp} {Q : VK} {σ : L2.St} {i j : Nat} (WC : WordC K mg CU 4) (h3 : σ[i]? = some (some (.ref b))) (h4 : σ[j]? = some (some (.str (T wd)))) (hB : BookAt H7 b L rs es) (oB : BookOk L rs es) (hw : ∀ c ∈ wd, c ∈ L) (hl : wd.length ≤ 12)
    (h : ∀ (t : Addr) (H8 : Hp), Same H7 H8 → H8 t = some (.tup (saidV rs es wd)) → Q (.ref t) H8) : TTw K mg (fun E H' Q' => tCall (spSaidR CU) [] E (tCons (tVar i) (tCons (tVar j) tNil)) σ H' Q') H7 Q := by
  intro D hD post hpost
  have sD := same_new hD (.lst [])
  refine ⟨_, h3, _, h4, b, L, rs, es, wd, rfl, hB.kt (.of sD), oB, hw, hl, fun so hM H' s' => ?_, fun hM p hp d H' s' hd hH => ?_⟩
  · refine hpost _ _ (s' _ _ upd_same) fun t H8 s8 ht => h t H8 (same_stp (sD.trans s') hD s8) ?_
    unfold saidV
    rw [hM, ht, show (("" : Str)) = T [] from nil_eq]
  · refine ⟨CU, 4, _, WC, rfl, .inl ⟨rfl, d, p, rfl, hH, rfl⟩, fun t H8 s8 ht => h t H8 (sD.trans (s'.trans s8)) ?_⟩
    unfold saidV
    rw [hM, hp]
    exact ht
theorem saidM_sign {L : List Nat} {rs : List Rule} {es : List Exc} (ho : BookOk L rs es) {wd s : List Nat} (h : saidM rs es wd = some s) : ∀ c ∈ s, c < 1114112 := by
  unfold saidM at h
  cases hf : es.find? fun e => decide (e.1 = wd) with
  | some e =>
    rw [hf] at h
    cases h
    intro c hc
    have := (ho.ex e (List.mem_of_find?_eq_some hf)).s c hc
    omega
  | none =>
    rw [hf] at h
    intro c hc
    have := (say_caps ho.rl ho.lt h).1 c hc
    omega
/-- two such answers: the same, or both unsaid -/
theorem said_alike {K : PySem.W.Frag} {H : Hp} {t u : Addr} {r1 r2 : List Rule} {e1 e2 : List Exc} {wd : List Nat} (ht : H t = some (.tup (saidV r1 e1 wd))) (hu : H u = some (.tup (saidV r2 e2 wd)))
    (ok1 : ∀ s, saidM r1 e1 wd = some s → ∀ c ∈ s, c < 1114112) (ok2 : ∀ s, saidM r2 e2 wd = some s → ∀ c ∈ s, c < 1114112) :
    ∃ (d1 d2 : PyData) (f1 f2 : Str) (z1 z2 : V), Dp K H (.ref t) d1 ∧ Dp K H (.ref u) d2 ∧ SeqAt.shaped d1 = true ∧ SeqAt.shaped d2 = true ∧ H t = some (.tup [.str f1, z1]) ∧ H u = some (.tup [.str f2, z2]) ∧
      ((PyData.eqv d1 d2 || (decide (V.str f1 = V.str (Str.ofString "unsaid")) && decide (V.str f2 = V.str (Str.ofString "unsaid")))) = decide (saidM r1 e1 wd = saidM r2 e2 wd)) := by
  have bad : decide (V.str (T []) = V.str (Str.ofString "unsaid")) = false := by decide +kernel
  have good : decide (V.str (Str.ofString "unsaid") = V.str (Str.ofString "unsaid")) = true := decide_eq_true rfl
  cases h1 : saidM r1 e1 wd with
  | some s1 =>
    unfold saidV at ht
    rw [h1] at ht
    cases h2 : saidM r2 e2 wd with
    | some s2 =>
      unfold saidV at hu
      rw [h2] at hu
      refine ⟨.tuple [.str (T []), .str (T s1)], .tuple [.str (T []), .str (T s2)], _, _, _, _, .tup (.inl (.inl ht)) (.cons (.str _) (.cons (.str _) .nil)), .tup (.inl (.inl hu)) (.cons (.str _) (.cons (.str _) .nil)), shaped_two (by decide +kernel) (strOk_T (ok1 s1 h1)) rfl rfl, shaped_two (by decide +kernel) (strOk_T (ok2 s2 h2)) rfl rfl, ht, hu, ?_⟩
      rw [bad, Bool.false_and, Bool.or_false]
      show ((T [] == T []) && ((T s1 == T s2) && true)) = _
      rw [beq_self_eq_true, Bool.true_and, Bool.and_true]
      by_cases c : s1 = s2
      · subst c; simp
      · rw [beq_eq_false_iff_ne.mpr fun z => c (T_inj z)]
        exact (decide_eq_false (p := some s1 = some s2) fun z => c (Option.some.inj z)).symm
    | none =>
      obtain ⟨p, hp⟩ := said_stuck' h2
      unfold saidV at hu
      rw [h2, hp] at hu
      refine ⟨.tuple [.str (T []), .str (T s1)], .tuple [.str (Str.ofString "unsaid"), .int (p : Nat)], _, _, _, _, .tup (.inl (.inl ht)) (.cons (.str _) (.cons (.str _) .nil)), .tup (.inl (.inl hu)) (.cons (.str _) (.cons (.int _) .nil)), shaped_two (by decide +kernel) (strOk_T (ok1 s1 h1)) rfl rfl, shaped_two (by decide +kernel) rfl rfl rfl, ht, hu, ?_⟩
      rw [bad, Bool.false_and, Bool.or_false]
      show ((T [] == Str.ofString "unsaid") && PyData.eqvAll [.str (T s1)] [.int (p : Nat)]) = _
      rw [show (T [] == Str.ofString "unsaid") = false by decide +kernel, Bool.false_and]
      simp
  | none =>
    obtain ⟨p, hp⟩ := said_stuck' h1
    unfold saidV at ht
    rw [h1, hp] at ht
    cases h2 : saidM r2 e2 wd with
    | some s2 =>
      unfold saidV at hu
      rw [h2] at hu
      refine ⟨.tuple [.str (Str.ofString "unsaid"), .int (p : Nat)], .tuple [.str (T []), .str (T s2)], _, _, _, _, .tup (.inl (.inl ht)) (.cons (.str _) (.cons (.int _) .nil)), .tup (.inl (.inl hu)) (.cons (.str _) (.cons (.str _) .nil)), shaped_two (by decide +kernel) rfl rfl rfl, shaped_two (by decide +kernel) (strOk_T (ok2 s2 h2)) rfl rfl, ht, hu, ?_⟩
      rw [bad, Bool.and_false, Bool.or_false]
      show ((Str.ofString "unsaid" == T []) && PyData.eqvAll [.int (p : Nat)] [.str (T s2)]) = _
      rw [show (Str.ofString "unsaid" == T []) = false by decide +kernel, Bool.false_and]
      simp
    | none =>
      obtain ⟨p2, hp2⟩ := said_stuck' h2
      unfold saidV at hu
      rw [h2, hp2] at hu
      refine ⟨.tuple [.str (Str.ofString "unsaid"), .int (p : Nat)], .tuple [.str (Str.ofString "unsaid"), .int (p2 : Nat)], _, _, _, _, .tup (.inl (.inl ht)) (.cons (.str _) (.cons (.int _) .nil)), .tup (.inl (.inl hu)) (.cons (.str _) (.cons (.int _) .nil)), shaped_two (by decide +kernel) rfl rfl rfl, shaped_two (by decide +kernel) rfl rfl rfl, ht, hu, ?_⟩
      rw [good]
      simp
section
variable {X : Cx}
/-- (i, u) < (j, v): a number and a text -/
theorem op_ltNT (hu : X.A.units + 65 < cLine) : OpR X (compareOp .Lt) (fun x y H Q => ∃ (i j : Int) (u v : Str), Dp X.K H x (.tuple [.int i, .str u]) ∧ Dp X.K H y (.tuple [.int j, .str v]) ∧ Q (.bl (if i = j then decide (u.cps.toList < v.cps.toList) else decide (i < j))) H) := by
  intro pins s σ H x y v' u' Q I rx ry h
  obtain ⟨i, j, u, v, hx, hy, q⟩ := h
  obtain ⟨as, r1⟩ := Dp.reads I _ x v' hx rx
  obtain ⟨bs, r2⟩ := Dp.reads I _ y u' hy ry
  exact PySem.W.lt_datum (α := Int × Str) (x := (i, u)) (y := (j, v)) ⟨as, r1⟩ ⟨bs, r2⟩ (by show X.A.units + 1 < cLine; omega) ⟨.bl _, H, I, rfl, q⟩
end
end Say
namespace Say
open PySem PySem.Spec PyProof.Rows L2
section
variable {P : Program} {w : World} {K : PySem.W.Frag} {mg : Str → Option Value} {base : Heap}
abbrev sTaken : Stmt := topS 65
theorem scTaken : FnScope ["_law_row_here", "_law_many", "_law_found", "_law_cell"] ["_law_row_here", "_law_many"] (defScope sTaken) := ⟨rfl, rfl, rfl, by decide +kernel, rfl, by decide +kernel, by decide +kernel⟩
theorem fmod_in {x n : Int} (h : 0 < n) : 0 ≤ x.fmod n ∧ x.fmod n < n := ⟨Int.fmod_nonneg_of_pos _ h, Int.fmod_lt_of_pos _ h⟩
theorem ok_taken {f : Addr} {fd : FuncData} {k : Nat} (F : Fun K "_law_taken" "_law_taken" sTaken f fd) (ml : mg "len" = none) : FnOk P w K mg base CX0 (k + 1) f fd ["_law_row_here", "_law_many"] (spTaken K) := by
  refine F.ok scTaken (fun vs H Q E h => ?_) (fun cdv A outer s H vs Q E hr h => ?_)
  · obtain ⟨r, a, ns, n, rfl, _⟩ := h
    rfl
  · obtain ⟨r, a, ns, n, rfl, R, h0, h1, q⟩ := h
    obtain ⟨⟨i, c, m, hR, hi, hm0, hm1⟩, hS, hle⟩ := id R
    refine ⟨_, pss_cons (ps_if (pt_cmpR op_gt (pe_ix ix_list (pv 0) pe_int (fun _ _ => rfl)) pe_int (nomark _))
        (pss_cons (ps_set (i := 2) scTaken.nd rfl (.inl rfl) (pe_op op_modN (pe_ix ix_list (pv 0) pe_int (fun _ _ => rfl)) (pv 1)))
        (pss_cons (ps_asg (pe_op op_fdivN (pe_ix ix_list (pv 0) pe_int (fun _ _ => rfl)) (pv 1)) (pg_sub (pv 0) pe_int set_list))
        (pss_one (ps_ret (pv 2))))) pss_nil)
      (pss_cons (ps_if (pt_cmpR op_lt (pe_ix ix_list (pv 0) pe_int (fun _ _ => rfl)) (pe_callB call_len_seq (by rfl) ml PySem.boot_len (pa_cons (pe_ix ix_list (pv 0) pe_int (fun _ _ => rfl)) pa_nil)) (nomark _))
        (pss_cons (ps_set (i := 3) scTaken.nd rfl (.inl rfl) (pe_ix ix_list (pe_ix ix_list (pv 0) pe_int (fun _ _ => rfl)) (pe_ix ix_list (pv 0) pe_int (fun _ _ => rfl)) (fun _ _ => rfl)))
        (pss_cons (ps_asg (pe_op op_add (pe_ix ix_list (pv 0) pe_int (fun _ _ => rfl)) pe_int) (pg_sub (pv 0) pe_int set_list))
        (pss_cons (ps_if (pt_cmpR op_ge (pv 3) (pe_op op_pow pe_int pe_int) (nomark _))
          (pss_one (ps_asg (pe_op op_fdivN (pv 3) (pv 1)) (pg_sub (pv 0) pe_int set_list))) pss_nil)
        (pss_one (ps_ret (pe_op op_modN (pv 3) (pv 1))))))) pss_nil)
      (pss_cons (ps_asg (pe_op op_modN (pe_op op_add (pe_op op_mul (pe_ix ix_list (pv 0) pe_int (fun _ _ => rfl)) pe_int) pe_int) pe_int) (pg_sub (pv 0) pe_int set_list))
      (pss_one (ps_ret (pe_op op_modN (pe_op op_fdivN (pe_ix ix_list (pv 0) pe_int (fun _ _ => rfl)) pe_int) (pv 1)))))), ?_⟩
    have hL : SqL K H r [.ref a, .int i, .int c, .int m] := .inl (.inl hR)
    have gn : n ≠ 0 ∧ n.natAbs < 1073741824 := ⟨by omega, by omega⟩
    -- row[2] > 0
    refine ⟨_, rfl, r, _, 2, .int c, rfl, rfl, hL, atI_nat (j := 2) rfl, _, _, rfl, rfl, _, rfl, ite2 (fun e => ?_) (fun e => ?_)⟩
    · refine ⟨_, rfl, r, _, 2, .int c, rfl, rfl, hL, atI_nat (j := 2) rfl, _, rfl, _, _, rfl, rfl, gn.1, ?_⟩
      refine ⟨_, rfl, r, _, 2, .int c, rfl, rfl, hL, atI_nat (j := 2) rfl, _, rfl, _, _, rfl, rfl, gn, ?_⟩
      refine ⟨_, rfl, r, _, 2, 2, rfl, rfl, hR, rfl, ?_⟩
      refine ⟨_, rfl, ?_⟩
      exact q _ _ (fmod_in h0).1 (fmod_in h0).2 (stp_at _) (R.put hi hm0 hm1)
    -- row[1] < len(row[0])
    refine ⟨_, rfl, r, _, 1, .int i, rfl, rfl, hL, atI_nat (j := 1) rfl, _, rfl, r, _, 0, .ref a, rfl, rfl, hL, atI_nat (j := 0) rfl, a, _, rfl, .inl hS, _, _, rfl, rfl, _, rfl, ite2 (fun e1 => ?_) (fun e1 => ?_)⟩
    · have e2 : i < ((ns.map V.int).length : Int) := of_decide_eq_true e1
      rw [List.length_map] at e2
      have hj : i.toNat < ns.length := by omega
      have gx : (ns.map V.int)[i.toNat]? = some (.int ns[i.toNat]) := by
        rw [List.getElem?_map, List.getElem?_eq_getElem hj]
        rfl
      refine ⟨_, rfl, r, _, 0, .ref a, rfl, rfl, hL, atI_nat (j := 0) rfl, _, rfl, r, _, 1, .int i, rfl, rfl, hL, atI_nat (j := 1) rfl, a, _, i, .int ns[i.toNat], rfl, rfl, hS, at_of (j := i.toNat) (by omega) gx, ?_⟩
      refine ⟨_, rfl, r, _, 1, .int i, rfl, rfl, hL, atI_nat (j := 1) rfl, _, _, rfl, rfl, ?_⟩
      refine ⟨_, rfl, r, _, 1, 1, rfl, rfl, hR, rfl, ?_⟩
      have R1 : RowAt K (upd H r (.lst [.ref a, .int (i + 1), .int c, .int m])) r a ns := R.put (by omega) hm0 hm1
      refine ⟨_, rfl, _, _, rfl, rfl, ⟨by decide, by decide, by decide⟩, _, _, rfl, rfl, _, rfl, ite2 (fun e3 => ?_) (fun e3 => ?_)⟩
      · refine ⟨_, rfl, _, rfl, _, _, rfl, rfl, gn, ?_⟩
        refine ⟨_, rfl, r, _, 2, 2, rfl, rfl, upd_same, rfl, ?_⟩
        refine ⟨_, rfl, _, rfl, _, _, rfl, rfl, gn.1, ?_⟩
        exact q _ _ (fmod_in h0).1 (fmod_in h0).2 ((stp_at _).trans (stp_at _)) (R1.put (by omega) hm0 hm1)
      · refine ⟨_, rfl, _, rfl, _, _, rfl, rfl, gn.1, ?_⟩
        exact q _ _ (fmod_in h0).1 (fmod_in h0).2 (stp_at _) R1
    · refine ⟨_, rfl, r, _, 3, .int m, rfl, rfl, hL, atI_nat (j := 3) rfl, _, _, rfl, rfl, .inl ⟨by omega, by omega⟩, _, _, rfl, rfl, _, _, rfl, rfl, (by show (2147483647 : Int) ≠ 0; decide), ?_⟩
      refine ⟨_, rfl, r, _, 3, 3, rfl, rfl, hR, rfl, ?_⟩
      have b := fmod_in (x := m * 48271 + 12345) (n := 2147483647) (by decide)
      have R1 : RowAt K (upd H r (.lst [.ref a, .int i, .int c, .int ((m * 48271 + 12345).fmod 2147483647)])) r a ns := R.put hi b.1 b.2
      refine ⟨_, rfl, r, _, 3, .int ((m * 48271 + 12345).fmod 2147483647), rfl, rfl, .inl (.inl upd_same), atI_nat (j := 3) rfl, _, _, rfl, rfl, ⟨by decide, by decide⟩, _, rfl, _, _, rfl, rfl, gn.1, ?_⟩
      exact q _ _ (fmod_in h0).1 (fmod_in h0).2 (stp_at _) R1
end
end Say
namespace Say
open PySem PySem.Spec PyProof.Rows L2
def lets : List (List Nat) := [[97, 98], [97, 98, 99], [97, 99], [97, 98, 99, 100]]
section
variable {P : Program} {w : World} {K : PySem.W.Frag} {mg : Str → Option Value} {base : Heap}
abbrev sSide : Stmt := topS 67
theorem scSide : FnScope ["_law_row_here", "_law_letters_here", "_law_sign"] ["_law_row_here", "_law_letters_here"] (defScope sSide) := ⟨rfl, rfl, rfl, by decide +kernel, rfl, by decide +kernel, by decide +kernel⟩
def spSide (K : PySem.W.Frag) : Sp := fun vs H Q _ => ∃ (r a : Addr) (ns : List Int) (L : List Nat), vs = [.ref r, .str (T L)] ∧ RowAt K H r a ns ∧ L.length ≤ 4 ∧
  ∀ (z : List Nat) (H' : Hp), z.Sublist (35 :: L) → Stp r H H' → RowAt K H' r a ns → Q (.str (T z)) H'
theorem ok_side {f : Addr} {fd : FuncData} (F : Fun K "_law_side" "_law_side" sSide f fd) (DT : Df P w K mg base "_law_taken" ["_law_row_here", "_law_many"] 1 (spTaken K)) :
    FnOk P w K mg base CX0 2 f fd ["_law_row_here", "_law_letters_here"] (spSide K) := by
  obtain ⟨fT, fdT, GT, kT, bT, mT⟩ := DT
  refine F.ok scSide (fun vs H Q E h => ?_) (fun cdv A outer s H vs Q E hr h => ?_)
  · obtain ⟨r, a, ns, L, rfl, _⟩ := h
    rfl
  · obtain ⟨r, a, ns, L, rfl, R, hl, q⟩ := h
    refine ⟨_, pss_cons (ps_if (pt_cmpR op_eq (pe_call GT hr (by rfl) mT kT bT .nil pass0 (pa_cons (pv 0) (pa_cons pe_int pa_nil))) pe_int (nomark _)) (pss_one (ps_ret pe_str)) pss_nil)
      (pss_one (ps_ret (pe_join pe_str (pe_lc (own := [("_law_sign", 2)]) (g := gName 2) rfl scSide.nd (pi_str (pe_op op_add_str pe_str (pv 1)))
        (blkOk_by (N := ["_law_row_here", "_law_letters_here", "_law_sign"]) (sc := defScope sSide) (by decide +kernel)) (fun _ _ _ _ _ => pg_name (i := 2) scSide.nd rfl (.inl rfl))
        (fun _ _ _ _ _ => pts_one (pt_cmpR op_eq (pe_call GT hr (by rfl) mT kT bT .nil pass0 (pa_cons (pv 0) (pa_cons pe_int pa_nil))) pe_int (nomark _))) (fun _ _ _ _ _ => pv 2))))), ?_⟩
    refine ⟨_, rfl, r, a, ns, 2, rfl, R, by decide, by decide, fun k1 H1 h0 h1 s1 R1 => ?_⟩
    refine ⟨rfl, _, rfl, ite2 (fun _ => ?_) (fun _ => ?_)⟩
    · have e := q [] H1 (List.nil_sublist _) s1 R1
      exact e
    refine ⟨⟨_, rfl⟩, _, rfl, _, _, rfl, rfl, (by rw [len_hash, T_len]; exact small (by omega)), ?_⟩
    refine ⟨T (35 :: L), congrArg V.str (hash_app L), fun D hD => ?_⟩
    refine lc_it (walk_str) (fun i H2 => ∃ acc : List Nat, H2 D = some (.lst (sg acc)) ∧ acc.Sublist ((35 :: L).take i) ∧ Stp r H1 H2 ∧ RowIn H2 r a) ?_ (fun _ _ _ _ => trivial) ?_ ?_
    · exact ⟨[], upd_same, List.nil_sublist _, Stp.of (same_new hD _), R1.in.upd (R1.nw hD)⟩
    · rintro i x H2 H2' hi ⟨acc, e1, e2, e3, e4⟩ ⟨rfl, c, hc, rfl⟩
      have hc := T_at hc
      have tk := take_next hc
      refine ⟨rfl, _, rfl, r, a, ns, 2, rfl, R1.of e3 e4, by decide, by decide, fun k2 H3 h0 h1 s2 R2 => ?_⟩
      have e1' := s2.one e1 (R1.nw hD)
      refine ⟨rfl, _, rfl, ite2 (fun _ => ?_) (fun _ => ?_)⟩
      · refine ⟨_, rfl, _, e1', ?_, acc ++ [c], ?_, ?_, (e3.trans s2).put hD _, R2.in.upd (R1.nw hD)⟩
        · have := e2.length_le
          rw [sg_len]
          rw [List.length_take, List.length_cons] at this
          exact small1000 (by omega)
        · rw [upd_same]
          exact congrArg (fun l => some (HO.lst l)) (sg_app acc c)
        · rw [tk]
          exact e2.append (List.Sublist.refl [c])
      · refine ⟨acc, e1', ?_, e3.trans s2, R2.in⟩
        rw [tk]
        exact e2.trans (List.sublist_append_left _ _)
    · rintro H2 ⟨acc, e1, e2, e3, e4⟩
      rw [T_size, List.take_length] at e2
      refine ⟨Str.ofString "", D, (acc.map fun c => [c]).map T, rfl, rfl, .inl (.inl (.inl ?_)), ?_, ?_⟩
      · rw [e1, sg_map]
      · rw [sum_ones]
        have := e2.length_le
        rw [List.length_cons] at this
        show acc.length + _ * 0 ≤ _
        omega
      · rw [show Str.ofString "" = T [] from nil_eq, join_nil, map_single]
        exact q acc H2 e2 (s1.trans e3) (R1.of e3 e4)
end
end Say
namespace Say
open PySem PySem.Spec PyProof.Rows L2
section
variable {P : Program} {w : World} {K : PySem.W.Frag} {mg : Str → Option Value} {base : Heap}
abbrev sText : Stmt := topS 68
theorem scText : FnScope ["_law_row_here", "_law_signs", "_law_fewest", "_law_many", "_law_k"] ["_law_row_here", "_law_signs", "_law_fewest", "_law_many"] (defScope sText) := ⟨rfl, rfl, rfl, by decide +kernel, rfl, by decide +kernel, by decide +kernel⟩
def spText (K : PySem.W.Frag) : Sp := fun vs H Q _ => ∃ (r a : Addr) (ns : List Int) (S : List Nat) (lo hi : Nat), vs = [.ref r, .str (T S), .int lo, .int hi] ∧ RowAt K H r a ns ∧ 0 < S.length ∧ S.length ≤ 100 ∧ lo ≤ hi ∧ hi ≤ 100 ∧
  ∀ (z : List Nat) (H' : Hp), (∀ c ∈ z, c ∈ S) → lo ≤ z.length → z.length ≤ hi → Stp r H H' → RowAt K H' r a ns → Q (.str (T z)) H'
theorem ok_text {f : Addr} {fd : FuncData} (F : Fun K "_law_text" "_law_text" sText f fd) (DT : Df P w K mg base "_law_taken" ["_law_row_here", "_law_many"] 1 (spTaken K)) (ml : mg "len" = none) (mr : mg "range" = none) :
    FnOk P w K mg base CX0 2 f fd ["_law_row_here", "_law_signs", "_law_fewest", "_law_many"] (spText K) := by
  obtain ⟨fT, fdT, GT, kT, bT, mT⟩ := DT
  refine F.ok scText (fun vs H Q E h => ?_) (fun cdv A outer s H vs Q E hr h => ?_)
  · obtain ⟨r, a, ns, S, lo, hi, rfl, _⟩ := h
    rfl
  · obtain ⟨r, a, ns, S, lo, hi, rfl, R, hS0, hS1, hlh, hh, q⟩ := h
    refine ⟨_, pss_one (ps_ret (pe_join pe_str (pe_lc (own := [("_law_k", 4)]) (g := gName 4) rfl scText.nd
        (pi_range1 rfl mr (pa_cons (pe_op op_add (pv 2) (pe_call GT hr (by rfl) mT kT bT .nil pass0 (pa_cons (pv 0) (pa_cons (pe_op op_add (pe_op op_sub (pv 3) (pv 2)) pe_int) pa_nil)))) pa_nil))
        (blkOk_by (N := ["_law_row_here", "_law_signs", "_law_fewest", "_law_many", "_law_k"]) (sc := defScope sText) (by decide +kernel)) (fun _ _ _ _ _ => pg_name (i := 4) scText.nd rfl (.inl rfl))
        (fun _ _ _ _ _ => pts_nil) (fun _ _ _ _ _ => pe_ix ix_str (pv 1) (pe_call GT hr (by rfl) mT kT bT .nil pass0 (pa_cons (pv 0) (pa_cons (pe_callB call_len_str (by rfl) ml PySem.boot_len (pa_cons (pv 1) pa_nil)) pa_nil))) (fun _ _ => rfl))))), ?_⟩
    refine ⟨⟨_, rfl⟩, _, rfl, _, rfl, _, rfl, _, rfl, _, _, rfl, rfl, _, _, rfl, rfl, r, a, ns, _, rfl, R, by omega, by omega, fun k1 H1 h0 h1 s1 R1 => ?_⟩
    refine ⟨_, _, rfl, rfl, (lo : Int) + k1, rfl, by omega, by omega, fun D hD => ?_⟩
    refine lc_it (walk_range) (fun i H2 => ∃ acc : List Nat, H2 D = some (.lst (sg acc)) ∧ acc.length = i ∧ (∀ c ∈ acc, c ∈ S) ∧ Stp r H1 H2 ∧ RowIn H2 r a) ?_ (fun _ _ _ _ => trivial) ?_ ?_
    · exact ⟨[], upd_same, rfl, by simp, Stp.of (same_new hD _), R1.in.upd (R1.nw hD)⟩
    · rintro i x H2 H2' hi' ⟨acc, e1, e2, e3, e4, e5⟩ ⟨rfl, rfl⟩
      refine ⟨rfl, ?_⟩
      refine ⟨_, rfl, _, rfl, _, rfl, _, rfl, (by rw [T_len]; exact small (by omega)), r, a, ns, _, rfl, R1.of e4 e5, (by rw [T_len]; omega), (by rw [T_len]; omega), fun k2 H3 h2 h3 s2 R2 => ?_⟩
      have e1' := s2.one e1 (R1.nw hD)
      rw [T_len] at h3
      have hj : k2.toNat < S.length := by omega
      refine ⟨T S, k2, S[k2.toNat], rfl, rfl, (by rw [T_len]; exact small (by omega)), at_list hj (by omega), ?_⟩
      refine ⟨_, e1', ?_, acc ++ [S[k2.toNat]], ?_, by simp [e2], ?_, (e4.trans s2).put hD _, R2.in.upd (R1.nw hD)⟩
      · rw [sg_len]
        exact small1000 (by omega)
      · rw [upd_same]
        exact congrArg (fun l => some (HO.lst l)) (sg_app acc _)
      · intro c hc
        rcases List.mem_append.mp hc with h | h
        · exact e3 c h
        · rw [List.mem_singleton.mp h]
          exact List.getElem_mem hj
    · rintro H2 ⟨acc, e1, e2, e3, e4, e5⟩
      refine ⟨Str.ofString "", D, (acc.map fun c => [c]).map T, rfl, rfl, .inl (.inl (.inl ?_)), ?_, ?_⟩
      · rw [e1, sg_map]
      · rw [sum_ones]
        show acc.length + _ * 0 ≤ _
        omega
      · rw [show Str.ofString "" = T [] from nil_eq, join_nil, map_single]
        exact q acc H2 e3 (by omega) (by omega) (s1.trans e4) (R1.of e4 e5)
end
end Say
namespace Say
open PySem PySem.Spec PyProof.Rows L2
section
variable {P : Program} {w : World} {K : PySem.W.Frag} {mg : Str → Option Value} {base : Heap}
abbrev sRule : Stmt := topS 69
theorem scRule : FnScope ["_law_row_here", "_law_letters_here", "_law_ahead", "_law_own"] ["_law_row_here", "_law_letters_here"] (defScope sRule) := ⟨rfl, rfl, rfl, by decide +kernel, rfl, by decide +kernel, by decide +kernel⟩
def spRule (K : PySem.W.Frag) : Sp := fun vs H Q _ => ∃ (r a : Addr) (ns : List Int) (L : List Nat), vs = [.ref r, .str (T L)] ∧ RowAt K H r a ns ∧ 0 < L.length ∧ L.length ≤ 4 ∧
  ∀ (ρ : Rule) (t : Addr) (H' : Hp), RuleOk L ρ → H' t = some (.tup ρ.vs) → Stp r H H' → RowAt K H' r a ns → Q (.ref t) H'
theorem AB_eq : Str.ofString "AB" = T [65, 66] := by decide +kernel
theorem AB_ok {z : List Nat} (h : ∀ c ∈ z, c ∈ [65, 66]) : ∀ c ∈ z, 65 ≤ c ∧ c ≤ 90 := fun c hc => by
  have := h c hc
  simp at this
  omega
theorem ok_rule {f : Addr} {fd : FuncData} (F : Fun K "_law_rule" "_law_rule" sRule f fd) (DT : Df P w K mg base "_law_taken" ["_law_row_here", "_law_many"] 1 (spTaken K))
    (DS : Df P w K mg base "_law_side" ["_law_row_here", "_law_letters_here"] 2 (spSide K)) (DX : Df P w K mg base "_law_text" ["_law_row_here", "_law_signs", "_law_fewest", "_law_many"] 2 (spText K)) :
    FnOk P w K mg base CX0 3 f fd ["_law_row_here", "_law_letters_here"] (spRule K) := by
  obtain ⟨fT, fdT, GT, kT, bT, mT⟩ := DT
  obtain ⟨fS, fdS, GS, kS, bS, mS⟩ := DS
  obtain ⟨fX, fdX, GX, kX, bX, mX⟩ := DX
  refine F.ok scRule (fun vs H Q E h => ?_) (fun cdv A outer s H vs Q E hr h => ?_)
  · obtain ⟨r, a, ns, L, rfl, _⟩ := h
    rfl
  · obtain ⟨r, a, ns, L, rfl, R, hl0, hl, q⟩ := h
    have hr1 : Room 1 _ := hr.mono (by decide)
    refine ⟨_, pss_cons (ps_par (i := 2) (j := 3) (by rfl) scRule.nd rfl rfl (by decide) rfl rfl (pa_cons (pe_call GS hr (by rfl) mS kS bS .nil pass0 (pa_cons (pv 0) (pa_cons (pv 1) pa_nil)))
          (pa_cons (pe_call GX hr (by rfl) mX kX bX .nil pass0 (pa_cons (pv 0) (pa_cons (pv 1) (pa_cons pe_int (pa_cons pe_int pa_nil))))) pa_nil)) (by rfl))
      (pss_one (ps_ret (pe_tup (pa_cons (pv 2) (pa_cons (pv 3) (pa_cons (pe_call GS hr (by rfl) mS kS bS .nil pass0 (pa_cons (pv 0) (pa_cons (pv 1) pa_nil)))
        (pa_cons (pe_call GX hr (by rfl) mX kX bX .nil pass0 (pa_cons (pv 0) (pa_cons pe_str (pa_cons pe_int (pa_cons (pe_ix ix_list (pe_lst (pa_cons pe_int (pa_cons pe_int (pa_cons pe_int pa_nil)))) (pe_call GT hr1 (by rfl) mT kT bT .nil pass0 (pa_cons (pv 0) (pa_cons pe_int pa_nil))) (fun _ _ => rfl)) pa_nil))))) pa_nil))))))), ?_⟩
    refine ⟨_, rfl, _, rfl, r, a, ns, L, rfl, R, hl, fun ah H1 o1 s1 R1 => ?_⟩
    refine ⟨_, rfl, _, rfl, r, a, ns, L, 1, 2, rfl, R1, hl0, by omega, by decide, by decide, fun ow H2 o2 o3 o4 s2 R2 => ?_⟩
    refine ⟨_, _, rfl, ?_⟩
    refine ⟨_, rfl, _, rfl, _, rfl, _, rfl, r, a, ns, L, rfl, R2, hl, fun be H3 o5 s3 R3 => ?_⟩
    refine ⟨_, rfl, (by show 3 ≤ sizeLine; decide), fun p hp => ?_⟩
    have sm := same_new hp (.lst [V.int 1, .int 1, .int 3])
    refine ⟨_, rfl, r, a, ns, 3, rfl, R3.stp sm, by decide, by decide, fun k1 H4 h0 h1 s4 R4 => ?_⟩
    have hL : SqL K H4 p [V.int 1, .int 1, .int 3] := .inl (.inl (s4 _ _ upd_same (R3.nw hp).symm))
    have s34 := (Stp.of sm).trans s4
    have fin : ∀ m : Nat, m ≤ 3 → ∀ (so : List Nat) (H5 : Hp), (∀ c ∈ so, c ∈ [65, 66]) → 0 ≤ so.length → so.length ≤ m → Stp r H4 H5 → RowAt K H5 r a ns → 
        (4 ≤ sizeLine ∧ ∀ t, H5 t = none → Q (.ref t) (upd H5 t (.tup [.str (T ah), .str (T ow), .str (T be), .str (T so)]))) := fun m hm so H5 o6 _ o7 s5 R5 =>
      ⟨by decide, fun t ht => q ⟨ah, ow, be, so⟩ t _ ⟨o1, o2, o3, o4, o5, AB_ok o6, by show so.length ≤ 3; omega⟩ upd_same (s1.trans (s2.trans (s3.trans (s34.trans (s5.trans (Stp.of (same_new ht _))))))) (R5.stp (same_new ht _))⟩
    have hk : k1 = 0 ∨ k1 = 1 ∨ k1 = 2 := by omega
    rcases hk with e | e | e
    · exact ⟨p, _, k1, V.int 1, rfl, rfl, hL, at_of (j := 0) e rfl, r, a, ns, [65, 66], 0, 1, by rw [AB_eq]; rfl, R4, by decide, by decide, by decide, by decide, fin 1 (by decide)⟩
    · exact ⟨p, _, k1, V.int 1, rfl, rfl, hL, at_of (j := 1) e rfl, r, a, ns, [65, 66], 0, 1, by rw [AB_eq]; rfl, R4, by decide, by decide, by decide, by decide, fin 1 (by decide)⟩
    · exact ⟨p, _, k1, V.int 3, rfl, rfl, hL, at_of (j := 2) e rfl, r, a, ns, [65, 66], 0, 3, by rw [AB_eq]; rfl, R4, by decide, by decide, by decide, by decide, fin 3 (by decide)⟩
abbrev sRules : Stmt := topS 70
theorem scRules : FnScope ["_law_row_here", "_law_letters_here", "_law_most", "_law_found", "_law_letter", "_law_k"] ["_law_row_here", "_law_letters_here", "_law_most"] (defScope sRules) := ⟨rfl, rfl, rfl, by decide +kernel, rfl, by decide +kernel, by decide +kernel⟩
def spRules (K : PySem.W.Frag) : Sp := fun vs H Q _ => ∃ (r a : Addr) (ns : List Int) (L : List Nat) (n : Nat), vs = [.ref r, .str (T L), .int n] ∧ RowAt K H r a ns ∧ 0 < L.length ∧ L.length ≤ 4 ∧ n ≤ 20 ∧
  ∀ (rs : List Rule) (R : Addr) (H' : Hp), (∀ ρ ∈ rs, RuleOk L ρ) → rs.length ≤ n + L.length → RulesAt H' R rs → Stp r H H' → RowAt K H' r a ns → Q (.ref R) H'
theorem ok_rules {f : Addr} {fd : FuncData} (F : Fun K "_law_rules" "_law_rules" sRules f fd) (DT : Df P w K mg base "_law_taken" ["_law_row_here", "_law_many"] 1 (spTaken K))
    (DR : Df P w K mg base "_law_rule" ["_law_row_here", "_law_letters_here"] 3 (spRule K)) (mr : mg "range" = none) (mt : mg "tuple" = none) :
    FnOk P w K mg base CX0 4 f fd ["_law_row_here", "_law_letters_here", "_law_most"] (spRules K) := by
  obtain ⟨fT, fdT, GT, kT, bT, mT⟩ := DT
  obtain ⟨fR, fdR, GR, kR, bR, mR⟩ := DR
  refine F.ok scRules (fun vs H Q E h => ?_) (fun cdv A outer s H vs Q E hr h => ?_)
  · obtain ⟨r, a, ns, L, n, rfl, _⟩ := h
    rfl
  · obtain ⟨r, a, ns, L, n, rfl, R, hl0, hl, hn, q⟩ := h
    have hr1 : Room 1 _ := hr.mono (by decide)
    refine ⟨_, pss_cons (ps_setLc (i := 3) (own := [("_law_k", 5)]) (g := gName 5) rfl scRules.nd rfl rfl (sw_true rfl rfl rfl (by decide +kernel))
        (pi_range1 rfl mr (pa_cons (pe_call GT hr1 (by rfl) mT kT bT .nil pass0 (pa_cons (pv 0) (pa_cons (pe_op op_add (pv 2) pe_int) pa_nil))) pa_nil))
        (blkOk_by (N := ["_law_row_here", "_law_letters_here", "_law_most", "_law_found", "_law_letter", "_law_k"]) (sc := defScope sRules) (by decide +kernel)) (fun _ _ _ _ _ => pg_name (i := 5) scRules.nd rfl (.inl rfl))
        (fun _ _ _ _ _ => pts_nil) (fun _ _ _ _ _ => pe_call GR hr (by rfl) mR kR bR .nil pass0 (pa_cons (pv 0) (pa_cons (pv 1) pa_nil))))
      (pss_cons (ps_if (pt_cmpR op_gt (pe_call GT hr1 (by rfl) mT kT bT .nil pass0 (pa_cons (pv 0) (pa_cons pe_int pa_nil))) pe_int (nomark _))
        (pss_one (ps_for PassesOwn.never rfl (pi_str (pv 1)) (pg_name (i := 4) scRules.nd rfl (.inl rfl))
          (pss_one (ps_expr (pe_bm PySem.F.plainAttrs_list PySem.F.slot_list_append PySem.F.type_list_append mt_append (pv 3)
            (pa_cons (pe_tup (pa_cons pe_str (pa_cons (pv 4) (pa_cons pe_str (pa_cons (pe_ix ix_list (pe_lst (pa_cons pe_str (pa_cons pe_str (pa_cons pe_str (pa_cons pe_str pa_nil))))) (pe_call GT hr1 (by rfl) mT kT bT .nil pass0 (pa_cons (pv 0) (pa_cons pe_int pa_nil))) (fun _ _ => rfl)) pa_nil))))) pa_nil)))))) pss_nil)
      (pss_one (ps_ret (pe_callTy call_tuple_of (by rfl) mt (by decide +kernel) (pa_cons (pv 3) pa_nil))))), ?_⟩
    refine ⟨_, rfl, _, rfl, _, _, rfl, rfl, r, a, ns, _, rfl, R, by omega, by omega, fun k1 H1 h0 h1 s1 R1 => ?_⟩
    refine ⟨k1, rfl, by omega, by omega, fun D hD => ?_⟩
    have nD := R1.nw hD
    refine lc_it (walk_range) (fun i H2 => ∃ (ts : List Addr) (rs : List Rule), H2 D = some (.lst (ts.map V.ref)) ∧ Paired (fun t ρ => H2 t = some (.tup (Rule.vs ρ))) ts rs ∧ rs.length = i ∧ (∀ ρ ∈ rs, RuleOk L ρ) ∧ Stp r H1 H2 ∧ RowIn H2 r a) ?_ (fun _ _ _ _ => trivial) ?_ ?_
    · exact ⟨[], [], upd_same, .nil, rfl, by simp, Stp.of (same_new hD _), R1.in.upd nD⟩
    · rintro i x H2 H2' hi' ⟨ts, rs, e1, e2, e3, e4, e5, e6⟩ ⟨rfl, rfl⟩
      refine ⟨rfl, ?_⟩
      refine ⟨_, rfl, _, rfl, r, a, ns, L, rfl, R1.of e5 e6, hl0, hl, fun ρ t H3 o1 o2 s2 R2 => ?_⟩
      have e1' := s2.one e1 nD
      have kt := (s2.kt e6).trans (kt_upd e1' (o := .lst (ts.map V.ref ++ [.ref t])))
      refine ⟨_, e1', ?_, ts ++ [t], rs ++ [ρ], ?_, ?_, by simp [e3], ?_, (e5.trans s2).put hD _, R2.in.upd nD⟩
      · rw [List.length_map, paired_len e2]
        exact small1000 (by omega)
      · rw [upd_same, List.map_append]
        rfl
      · exact paired_app (paired_mono (fun t ρ h => kt.1 _ _ h) e2) (.cons ((kt_upd e1').1 _ _ o2) .nil)
      · intro c hc
        rcases List.mem_append.mp hc with h | h
        · exact e4 c h
        · rw [List.mem_singleton.mp h]
          exact o1
    · rintro H2 ⟨ts, rs, e1, e2, e3, e4, e5, e6⟩
      have e3' : rs.length ≤ n := by omega
      refine ⟨_, rfl, r, a, ns, 4, rfl, R1.of e5 e6, by decide, by decide, fun k2 H3 h2 h3 s2 R2 => ?_⟩
      have e1' := s2.one e1 nD
      have e2' := paired_mono (fun t ρ h => (s2.kt e6).1 _ _ h) e2
      have e5' := e5.trans s2
      -- the end: tuple(found)
      have fin : ∀ (H4 : Hp) (ts : List Addr) (rs : List Rule), H4 D = some (.lst (ts.map V.ref)) → Paired (fun t ρ => H4 t = some (.tup (Rule.vs ρ))) ts rs → rs.length ≤ n + L.length → (∀ ρ ∈ rs, RuleOk L ρ) → Stp r H1 H4 → RowIn H4 r a → ∀ t, H4 t = none → Q (.ref t) (upd H4 t (.tup (ts.map V.ref))) := fun H4 ts rs f1 f2 f3 f4 f5 f6 t ht =>
        q rs t _ f4 f3 ⟨ts, upd_same, paired_mono (fun t ρ h => (kt_new ht).1 _ _ h) f2⟩ (s1.trans (f5.trans (Stp.of (same_new ht _)))) ((R1.of f5 f6).stp (same_new ht _))
      refine ⟨_, _, rfl, rfl, _, rfl, ite2 (fun _ => ?_) (fun _ => ?_)⟩
      · refine ⟨_, rfl, T L, rfl, for_it (walk_str) (fun i σ H4 => ∃ (ts : List Addr) (rs : List Rule) (v : Option V), σ = [some (.ref r), some (.str (T L)), some (.int n), some (.ref D), v, none] ∧ H4 D = some (.lst (ts.map V.ref)) ∧ Paired (fun t ρ => H4 t = some (.tup (Rule.vs ρ))) ts rs ∧ rs.length ≤ n + i ∧ (∀ ρ ∈ rs, RuleOk L ρ) ∧ Stp r H1 H4 ∧ RowIn H4 r a)
          ⟨ts, rs, _, rfl, e1', e2', by omega, e4, e5', R2.in⟩ (fun _ _ _ _ _ => trivial) ?_ ?_⟩
        · rintro i x σ H4 H4' hi' ⟨ts, rs, v, rfl, e1, e2, e3, e4, e5, e6⟩ ⟨rfl, c, hc, rfl⟩
          have hc := T_at hc
          have hi2 : i < L.length := by rw [T_size] at hi'; exact hi'
          have RA := R1.of e5 e6
          refine ⟨_, rfl, .inl ⟨rfl, _, .inl (.inl e1)⟩, _, rfl, (by show 4 ≤ sizeLine; decide), fun p hp => ?_⟩
          have sm := same_new hp (.lst [V.str "A", .str "B", .str "", .str "AB"])
          refine ⟨_, rfl, r, a, ns, 4, rfl, RA.stp sm, by decide, by decide, fun k3 H5 h4 h5 s3 R3 => ?_⟩
          have s3' := (Stp.of sm).trans s3
          have hL : SqL K H5 p [V.str "A", .str "B", .str "", .str "AB"] := .inl (.inl (s3 _ _ upd_same (RA.nw hp).symm))
          have f1 := s3'.one e1 nD
          have kt3 := s3'.kt e6
          have ec : c ∈ L := List.mem_of_getElem? hc
          have ok : ∀ so : List Nat, (∀ c ∈ so, 65 ≤ c ∧ c ≤ 90) → so.length ≤ 3 → RuleOk L ⟨[], [c], [], so⟩ := fun so g1 g2 =>
            ⟨List.nil_sublist _, fun d hd => by rw [List.mem_singleton.mp hd]; exact ec, Nat.le_refl _, by show 1 ≤ 2; decide, List.nil_sublist _, g1, g2⟩
          obtain ⟨so, g1, g2, g3⟩ : ∃ so : List Nat, (∀ c ∈ so, 65 ≤ c ∧ c ≤ 90) ∧ so.length ≤ 3 ∧ atI [V.str "A", .str "B", .str "", .str "AB"] k3 = some (V.str (T so)) := by
            have hk : k3 = 0 ∨ k3 = 1 ∨ k3 = 2 ∨ k3 = 3 := by omega
            rcases hk with e | e | e | e
            · exact ⟨[65], by decide, by decide, at_of (j := 0) e (by decide +kernel)⟩
            · exact ⟨[66], by decide, by decide, at_of (j := 1) e (by decide +kernel)⟩
            · exact ⟨[], by decide, by decide, at_of (j := 2) e (by decide +kernel)⟩
            · exact ⟨[65, 66], by decide, by decide, at_of (j := 3) e (by decide +kernel)⟩
          refine ⟨p, _, k3, V.str (T so), rfl, rfl, hL, g3, (by show 4 ≤ sizeLine; decide), fun t ht => ?_⟩
          have f2 := same_new ht (.tup [.str (Str.ofString ""), .str ⟨#[c]⟩, .str (Str.ofString ""), .str (T so)])
          have f3 := f2 _ _ f1
          have kt4 := (kt3.trans (KT.of f2)).trans (kt_upd f3 (o := .lst (ts.map V.ref ++ [.ref t])))
          refine ⟨D, _, _, rfl, rfl, f3, ?_, ts ++ [t], rs ++ [⟨[], [c], [], so⟩], _, rfl, ?_, ?_, ?_, ?_, ((e5.trans s3').trans (Stp.of f2)).put hD _, ?_⟩
          · rw [List.length_map, paired_len e2]
            exact small1000 (by omega)
          · rw [upd_same, List.map_append]
            rfl
          · refine paired_app (paired_mono (fun t ρ h => kt4.1 _ _ h) e2) (.cons ((kt_upd f3).1 _ _ ?_) .nil)
            rw [upd_same, show Str.ofString "" = T [] from nil_eq]
            rfl
          · rw [List.length_append]
            show rs.length + 1 ≤ n + (i + 1)
            omega
          · intro d hd
            rcases List.mem_append.mp hd with h | h
            · exact e4 d h
            · rw [List.mem_singleton.mp h]
              exact ok so g1 g2
          · exact (R3.stp f2).in.upd nD
        · rintro σ H4 ⟨ts, rs, v, rfl, e1, e2, e3, e4, e5, e6⟩
          rw [T_size] at e3
          exact ⟨_, rfl, D, _, rfl, .inl ⟨.inl (.inl e1), fin H4 ts rs e1 e2 e3 e4 e5 e6⟩⟩
      · exact ⟨_, rfl, D, _, rfl, .inl ⟨.inl (.inl e1'), fin H3 ts rs e1' e2' (by omega) e4 e5' R2.in⟩⟩
end
end Say
namespace Say
open PySem PySem.Spec PyProof.Rows L2
section
variable {P : Program} {w : World} {K : PySem.W.Frag} {mg : Str → Option Value} {base : Heap}
abbrev sRow : Stmt := topS 64
theorem scRow : FnScope ["_law_script", "_law_mixed", "_law_cell"] ["_law_script"] (defScope sRow) := ⟨rfl, rfl, rfl, by decide +kernel, rfl, by decide +kernel, by decide +kernel⟩
def spRow (K : PySem.W.Frag) : Sp := fun vs H Q _ => ∃ (a : Addr) (ns : List Int), vs = [.ref a] ∧ SqL K H a (ns.map V.int) ∧ ns.length ≤ 63 ∧
  ∀ (r : Addr) (H' : Hp), H r = none → Same H H' → RowAt K H' r a ns → Q (.ref r) H'
theorem map_int_get {ns : List Int} {i : Nat} {x : V} (h : (ns.map V.int)[i]? = some x) : ∃ z, x = V.int z := by
  rw [List.getElem?_map] at h
  cases e : ns[i]? with
  | none => rw [e] at h; cases h
  | some z => rw [e] at h; exact ⟨z, (Option.some.inj h).symm⟩
theorem ok_row {f : Addr} {fd : FuncData} {k : Nat} (F : Fun K "_law_row" "_law_row" sRow f fd) : FnOk P w K mg base CX0 (k + 1) f fd ["_law_script"] (spRow K) := by
  refine F.ok scRow (fun vs H Q E h => ?_) (fun cdv A outer s H vs Q E hr h => ?_)
  · obtain ⟨a, ns, rfl, _⟩ := h
    rfl
  · obtain ⟨a, ns, rfl, hS, hle, q⟩ := h
    refine ⟨_, pss_cons (ps_set (i := 1) scRow.nd rfl (.inl rfl) pe_int)
      (pss_cons (ps_for PassesOwn.never rfl (pi_list (pv 0)) (pg_name (i := 2) scRow.nd rfl (.inl rfl))
        (pss_one (ps_set (i := 1) scRow.nd rfl (.inl rfl) (pe_op op_modN (pe_op op_add (pe_op op_add (pe_op op_mul (pv 1) pe_int) (pv 2)) pe_int) pe_int))))
      (pss_one (ps_ret (pe_lst (pa_cons (pv 0) (pa_cons pe_int (pa_cons pe_int (pa_cons (pv 1) pa_nil)))))))), ?_⟩
    refine ⟨_, rfl, a, rfl, ⟨_, hS⟩, for_list (K := K) (a := a) (xs := ns.map V.int) (fun i σ H2 => H2 = H ∧ ∃ (m : Int) (v : Option V), σ = [some (.ref a), some (.int m), v] ∧ 0 ≤ m ∧ m < 2147483647)
      ⟨rfl, 7, none, rfl, by decide, by decide⟩ (fun i σ H2 _ h => by obtain ⟨rfl, _⟩ := h; exact hS) ?_ ?_⟩
    · rintro i x σ H2 hx ⟨rfl, m, v, rfl, h0, h1⟩
      obtain ⟨z, rfl⟩ := map_int_get hx
      refine ⟨_, rfl, _, _, rfl, rfl, .inl ⟨by omega, by omega⟩, _, rfl, _, _, rfl, rfl, _, _, rfl, rfl, _, _, rfl, rfl, (by show (2147483647 : Int) ≠ 0; decide), ?_⟩
      exact ⟨rfl, _, _, rfl, Int.fmod_nonneg_of_pos _ (by decide), Int.fmod_lt_of_pos _ (by decide)⟩
    · rintro σ H2 ⟨rfl, m, v, rfl, h0, h1⟩
      refine ⟨_, rfl, _, rfl, (by show 4 ≤ sizeLine; decide), fun p hp => ?_⟩
      have sm := same_new hp (.lst [.ref a, .int 0, .int 0, .int m])
      exact q p _ hp sm ⟨⟨0, 0, m, upd_same, by decide, h0, h1⟩, sm.seq hS, hle⟩
end
end Say
namespace Say
open PySem PySem.Spec PyProof.Rows L2
/-- S is not where the script stands -/
def Off (K : PySem.W.Frag) (a S : Addr) (ns : List Int) : Prop := (∀ H : Hp, SqL K H a (ns.map V.int)) ∨ a ≠ S
theorem RowAt.off {K : PySem.W.Frag} {H : Hp} {r a S : Addr} {ns : List Int} (R : RowAt K H r a ns) (h : H S = none) : Off K a S ns := by
  obtain ⟨_, sc, _⟩ := R
  rcases sc with (sc | ⟨o, sc⟩) | sc
  · exact .inr (ne_of_none sc h)
  · exact .inr (ne_of_none sc h)
  · exact .inl fun H' => .inr sc
theorem RowAt.updS {K : PySem.W.Frag} {H : Hp} {r a S : Addr} {ns : List Int} {o : HO} (R : RowAt K H r a ns) (n : r ≠ S) (of : Off K a S ns) : RowAt K (upd H S o) r a ns := by
  obtain ⟨⟨i', c', m', q', b'⟩, sc, le⟩ := R
  refine ⟨⟨i', c', m', by rw [upd_ne n]; exact q', b'⟩, ?_, le⟩
  rcases of with of | of
  · exact of _
  · rcases sc with (sc | ⟨o, sc⟩) | sc
    · exact .inl (.inl (by rw [upd_ne of]; exact sc))
    · exact .inl (.inr ⟨o, by rw [upd_ne of]; exact sc⟩)
    · exact .inr sc
end Say
namespace Say
open PySem PySem.Spec PyProof.Rows L2
section
variable {P : Program} {w : World} {K : PySem.W.Frag} {mg : Str → Option Value} {base : Heap}
abbrev sLetters : Stmt := topS 66
theorem scLetters : FnScope ["_law_row_here"] ["_law_row_here"] (defScope sLetters) := ⟨rfl, rfl, rfl, by decide +kernel, rfl, by decide +kernel, by decide +kernel⟩
def spLetters (K : PySem.W.Frag) : Sp := fun vs H Q _ => ∃ (r a : Addr) (ns : List Int), vs = [.ref r] ∧ RowAt K H r a ns ∧
  ∀ (L : List Nat) (H' : Hp), L ∈ lets → Stp r H H' → RowAt K H' r a ns → Q (.str (T L)) H'
theorem ok_letters {f : Addr} {fd : FuncData} (F : Fun K "_law_letters" "_law_letters" sLetters f fd) (DT : Df P w K mg base "_law_taken" ["_law_row_here", "_law_many"] 1 (spTaken K)) :
    FnOk P w K mg base CX0 2 f fd ["_law_row_here"] (spLetters K) := by
  obtain ⟨fT, fdT, GT, kT, bT, mT⟩ := DT
  refine F.ok scLetters (fun vs H Q E h => ?_) (fun cdv A outer s H vs Q E hr h => ?_)
  · obtain ⟨r, a, ns, rfl, _⟩ := h
    rfl
  · obtain ⟨r, a, ns, rfl, R, q⟩ := h
    refine ⟨_, pss_one (ps_ret (pe_ix ix_list (pe_lst (pa_cons pe_str (pa_cons pe_str (pa_cons pe_str (pa_cons pe_str pa_nil))))) (pe_call GT hr (by rfl) mT kT bT .nil pass0 (pa_cons (pv 0) (pa_cons pe_int pa_nil))) (fun _ _ => rfl))), ?_⟩
    refine ⟨(by show 4 ≤ sizeLine; decide), fun p hp => ?_⟩
    have sm := same_new hp (.lst [V.str "ab", .str "abc", .str "ac", .str "abcd"])
    refine ⟨_, rfl, r, a, ns, 4, rfl, R.stp sm, by decide, by decide, fun k1 H1 h0 h1 s1 R1 => ?_⟩
    have hL : SqL K H1 p [V.str "ab", .str "abc", .str "ac", .str "abcd"] := .inl (.inl (s1 _ _ upd_same (R.nw hp).symm))
    have hk : k1 = 0 ∨ k1 = 1 ∨ k1 = 2 ∨ k1 = 3 := by omega
    rcases hk with e | e | e | e
    · exact ⟨p, _, k1, V.str (T [97, 98]), rfl, rfl, hL, at_of (j := 0) e (by decide +kernel), q _ H1 (by decide) ((Stp.of sm).trans s1) R1⟩
    · exact ⟨p, _, k1, V.str (T [97, 98, 99]), rfl, rfl, hL, at_of (j := 1) e (by decide +kernel), q _ H1 (by decide) ((Stp.of sm).trans s1) R1⟩
    · exact ⟨p, _, k1, V.str (T [97, 99]), rfl, rfl, hL, at_of (j := 2) e (by decide +kernel), q _ H1 (by decide) ((Stp.of sm).trans s1) R1⟩
    · exact ⟨p, _, k1, V.str (T [97, 98, 99, 100]), rfl, rfl, hL, at_of (j := 3) e (by decide +kernel), q _ H1 (by decide) ((Stp.of sm).trans s1) R1⟩
end
end Say
namespace Say
open PySem PySem.Spec PyProof.Rows L2
section
variable {X : Cx}
/-- tuple(xs) of a list: a tuple as it is made -/
theorem call_tupN : CallR X (.type "tuple") (fun xs H Q => ∃ p ys, xs = [.ref p] ∧ SqL X.K H p ys ∧ ∀ (l : Addr) (o : Obj), o.dict = none → H l = none → Q (.ref l) (upd H l (.frz o (.tup ys)))) := by
  intro pins s σ H xs us Q I r h
  obtain ⟨p, ys, rfl, hq, q⟩ := h
  obtain ⟨u, rfl, rx⟩ := vals1 r
  cases rx
  obtain ⟨its, r', pl, hz⟩ := I.list hq
  have hlen := r'.length
  refine call_tuple_list pl.isList (fun h' kp => ?_) (by simp only [List.size_toArray] <;> omega)
  have I1 : Inv X pins σ H { s with heap := h' } := I.kept (t' := s.toks) kp
  have I2 : Inv X pins σ (upd H h'.objs.size (.frz { cls := .type "tuple", data := .seq its.toArray } (.tup ys))) { s with heap := h'.push { cls := .type "tuple", data := .seq its.toArray } } :=
    I1.laid (t' := s.toks) (fun b o e => Heap.get?_push_of_some _ e) (Nat.le_refl _) (show ObjOk X.prog X.w _ _ _ (.frz _ (.tup ys)) from ⟨Heap.get?_push_size _ rfl, hz, its, r', IsTup.new _ _⟩)
  exact ⟨.ref h'.objs.size, _, I2, rfl, q _ _ rfl (I1.hok.fresh (Nat.le_refl _))⟩
theorem pairs_ofT {pins : List (Addr × Obj)} {σ : L2.St} {H : Hp} {s : Shared} (I : L2.Inv X pins σ H s) : ∀ {ps : List Addr} {kvs : List (Key × V)}, Paired (fun p kv => SqT X.K H p [kV kv.1, kv.2]) ps kvs →
    ∃ (prs : List (Key × Value)) (vs : List (Value × Value)), KV kvs prs ∧ prs.length = ps.length ∧ vs.length = ps.length ∧
      ∀ (j : Nat) (k v : Value), vs[j]? = some (k, v) → ∃ (b : Addr) (q : Key), ps[j]? = some b ∧ prs[j]? = some (q, v) ∧ IsTup s.heap b #[k, v] ∧ keyIs q k = true
  | _, _, .nil => ⟨[], [], .nil, rfl, rfl, fun j k v e => by simp at e⟩
  | _, _, .cons (a := p) (b := kv) h t => by
    obtain ⟨prs, vs, r, hl, hl2, hp⟩ := pairs_ofT I t
    obtain ⟨its, rv, ht, _⟩ := I.tuple h
    obtain ⟨u, y, ei, ru, ry⟩ := vals2 rv
    subst ei
    refine ⟨(kv.1, y) :: prs, (u, y) :: vs, .cons ⟨rfl, ry⟩ r, by rw [List.length_cons, List.length_cons, hl], by rw [List.length_cons, List.length_cons, hl2], fun j k v e => ?_⟩
    cases j with
    | zero =>
      have e' : (u, y) = (k, v) := Option.some.inj e
      cases e'
      exact ⟨p, kv.1, rfl, rfl, ht, kV_is (P := X.prog) (w := X.w) ru⟩
    | succ j =>
      obtain ⟨b, q, e1, e2, e3⟩ := hp j k v (by simpa using e)
      exact ⟨b, q, by simpa using e1, by simpa using e2, e3⟩
/-- a display, as it is made -/
def tTupN (t : TA) : TE := fun σ H Q => t σ H fun xs H1 => xs.length ≤ sizeLine ∧ ∀ (p : Addr) (o : Obj), o.dict = none → H1 p = none → Q (.ref p) (upd H1 p (.frz o (.tup xs)))
theorem pe_tupN {es : List Expr} {t : TA} {pos : Pos} {x1} (h : PA X es t) : PE X (.Tuple es x1 pos) (tTupN t) := by
  refine ⟨fun pins s σ H Q I hq => ?_⟩
  refine wpAny_Tuple_spliced (thn (h.run pos pins s σ H _ I hq) fun us s1 ⟨xs, H1, I1, r, z, q⟩ => ⟨by rw [← r.length]; exact z, ?_⟩)
  have hf : H1 s1.heap.objs.size = none := I1.hok.fresh (Nat.le_refl _)
  exact ⟨.ref s1.heap.objs.size, upd H1 s1.heap.objs.size (.frz _ (.tup xs)), I1.laid (t' := s1.toks) (fun b u e => Heap.get?_push_of_some _ e) (Nat.le_refl _) ⟨Heap.get?_push_size _ rfl, z, us, r, ⟨_, Heap.get?_push_size _ rfl, rfl, _, rfl⟩⟩, rfl, q _ _ rfl hf⟩
/-- dict(ps) of such a tuple of pairs -/
theorem call_dictT (hcalm : X.calm = true) : CallR X (.type "dict") (fun xs H Q => ∃ (a : Addr) (ps : List Addr) (kvs : List (Key × V)), xs = [.ref a] ∧ TupN H a (ps.map V.ref) ∧ Paired (fun p kv => SqT X.K H p [kV kv.1, kv.2]) ps kvs ∧
    ∀ p, H p = none → Q (.ref p) (upd H p (.dK (mergeK [] kvs)))) := by
  intro pins s σ H xs us Q I r q
  obtain ⟨a, ps, kvs, ex, hq, hp, q⟩ := q
  subst ex
  obtain ⟨u, eu, rx⟩ := vals1 r
  subst eu
  cases rx
  obtain ⟨o, hH, hd⟩ := hq
  obtain ⟨ho, hz, its, rv, ⟨o', ho', hc, n, hdat⟩⟩ : s.heap.get? a = some o ∧ (ps.map V.ref).length ≤ sizeLine ∧ ∃ its : List Value, Vals (ps.map V.ref) its ∧ IsTup s.heap a its.toArray := I.hok _ _ hH
  have eo : o' = o := Option.some.inj (ho'.symm.trans ho)
  subst eo
  have ei := refs_at rv
  subst ei
  rw [List.length_map] at hz
  obtain ⟨prs, vs, rel, hl, hl2, hpr⟩ := pairs_ofT I hp
  refine PySem.call_dict_pairs (knd := mixKind X.prog X.w) (kvs := prs) (PySem.PairArg.tuple a (ps.map Value.ref).toArray (fun j => (ps[j]?).getD 0) vs) (I.ok.hd hcalm) ⟨⟨o', n, ho, hc, hd, hdat⟩, by simp [hl2], fun j k v e => ?_⟩ ⟨by rw [hl, hl2], fun j k v e => ?_⟩ (by rw [hl2]; exact hz) fun h' tk hd' k => ?_
  · obtain ⟨b, q', e1, _, e3, _⟩ := hpr j k v e
    refine ⟨by simp [e1], .inl ?_⟩
    show s.heap.IsTuple ((ps[j]?).getD 0) _
    rw [e1]
    exact e3
  · obtain ⟨b, q', e1, e2, _, e4⟩ := hpr j k v e
    exact ⟨q', e2, e4⟩
  · have hm : (s.heap.objs.size == sysModules) = false := beq_eq_false_iff_ne.mpr (Nat.ne_of_gt I.big)
    have hlen : (mergeK [] kvs).length ≤ sizeLine := by
      refine Nat.le_trans (length_mergeK kvs []) ?_
      rw [List.length_nil, Nat.zero_add, rel.length, hl]
      exact hz
    have k' : ∀ b o, s.heap.get? b = some o → h'.get? b = some o := fun b o e => k b o (by simp) e
    exact ⟨.ref s.heap.objs.size, upd H s.heap.objs.size (.dK (mergeK [] kvs)), I.laid (t' := tk) k' (Nat.le_refl _) (show ObjOk X.prog X.w _ _ _ (.dK (mergeK [] kvs)) from ⟨hlen, hm, merged [] prs, KV.merge rel .nil, hd'⟩), rfl, q _ (I.hok.fresh (Nat.le_refl _))⟩
end
end Say
/-! pieces of tuples, tuples joined (as in DFree) -/
namespace Say
open PySem PySem.Spec PyProof.Rows L2
theorem cut_lo (ts : List Addr) (k : Nat) (h : k ≤ ts.length) : cutV (ts.map V.ref) none (some (k : Int)) = (ts.take k).map V.ref := by
  unfold cutV
  rw [HT.sIx_nat]
  show ((ts.map V.ref).drop 0).take (min k (ts.map V.ref).length - 0) = _
  rw [List.drop_zero, Nat.sub_zero, List.length_map, Nat.min_eq_left h, List.map_take]
theorem cut_hi (ts : List Addr) (k : Nat) (h : k ≤ ts.length) : cutV (ts.map V.ref) (some (k : Int)) none = (ts.drop k).map V.ref := by
  unfold cutV
  rw [HT.sIx_nat]
  show ((ts.map V.ref).drop (min k (ts.map V.ref).length)).take ((ts.map V.ref).length - min k (ts.map V.ref).length) = _
  rw [List.length_map, Nat.min_eq_left h, List.take_of_length_le (by rw [List.length_drop, List.length_map]; exact Nat.le_refl _), List.map_drop]
section
variable {X : Cx}
theorem op_catU : OpR X (binaryOp .Add) (fun x y H Q => ∃ a b xs ys, x = .ref a ∧ y = .ref b ∧ H a = some (.tup xs) ∧ H b = some (.tup ys) ∧ xs.length + ys.length ≤ sizeLine ∧ ∀ (p : Addr) (H' : Hp), Same H H' → H' p = some (.tup (xs ++ ys)) → Q (.ref p) H') := by
  intro pins s σ H x y v u Q I rx ry h
  obtain ⟨a, b, xs, ys, e1, e2, ha, hb, hz, q⟩ := h
  refine op_catA pins s σ H x y v u Q I rx ry ⟨a, b, xs, ys, e1, e2, .inl (.inl ha), .inl (.inl hb), hz, fun e => ?_, fun _ e => ?_, fun _ _ p hp => ?_⟩
  · subst e
    exact q b H (Same.refl H) hb
  · subst e
    refine q a H (Same.refl H) ?_
    rw [List.append_nil]
    exact ha
  · exact q p _ (same_new hp _) upd_same
theorem sl_tupU : SlR X (fun x lo hi H Q => ∃ a xs, x = .ref a ∧ H a = some (.tup xs) ∧ ∀ (p : Addr) (H' : Hp), Same H H' → H' p = some (.tup (cutV xs lo hi)) → Q (.ref p) H') := by
  intro pins s σ H x v vl vu lo hi sl Q I rx hs pl pu h
  obtain ⟨a, xs, e, ha, q⟩ := h
  refine sl_tupA pins s σ H x v vl vu lo hi sl Q I rx hs pl pu ⟨a, xs, e, .inl (.inl ha), fun hw => ?_, fun hw p hp => ?_⟩
  · refine q a H (Same.refl H) ?_
    have : cutV xs lo hi = xs := by
      unfold cutV
      rw [hw.1, hw.2, List.drop_zero, Nat.sub_zero, List.take_length]
    rw [this]
    exact ha
  · exact q p _ (same_new hp _) upd_same
end
theorem paired_takeF {α β : Type} {F : α → β → Prop} : ∀ (m : Nat) {l : List α} {k : List β}, Paired F l k → Paired F (l.take m) (k.take m)
  | 0, _, _, _ => .nil
  | _ + 1, _, _, .nil => .nil
  | m + 1, _, _, .cons a t => .cons a (paired_takeF m t)
theorem paired_dropF {α β : Type} {F : α → β → Prop} : ∀ (m : Nat) {l : List α} {k : List β}, Paired F l k → Paired F (l.drop m) (k.drop m)
  | 0, _, _, h => h
  | _ + 1, _, _, .nil => .nil
  | m + 1, _, _, .cons a t => paired_dropF m t
end Say
/-! lambdas in more than one def: each def's own code object tells an empty table at the start -/
namespace LamX
open PySem PySem.Spec PyProof.Rows L2
theorem walk_ofOwns {l : PySem.W.OpenLaw} {n k : Nat} {q : Program} {loose : List Str} {XP : (Str → Option Value) → Heap → Prop} {YP : World → Heap → Prop} {d : DefRec} {K : Params → PySem.W.Frag} {CX : World → CXT} {x : Str}
    (few : l.most = some n) (size : n ≤ sizeLine) (plain : d.params.defaults = []) (room : Room k callerA) (ins : ∀ (w : World) (h : Heap), YP w h → (K w.params).In h)
    (F : ∀ (w : World) (mg : Str → Option Value) (fa : Addr) (h : Heap), YP w h → (K w.params).In h → h.Ns mainGlobals mg → mg d.name = some (.ref fa) →
      (∀ (y : Str) (g : Addr), ((recsOf q).any fun e => e.name == y) = true → mg y = some (.ref g) → OwnTab (K w.params) g h) → LawAtS l w (K w.params) (CX w) k n x mg fa h)
    (never : ∀ (w : World) (H : Hp) (s : Shared) (e : Value) (s' : Shared), CX w [] H s (fun _ _ _ => False) e s' → False) :
    PySem.W.WalkO q loose XP YP l.row.toRowW d [] (fun f vs => PySem.call f vs) := by
  refine Att.attach_callB few plain fun w s₀ s₁ mg mb fa o pm cd doc a vs ns G Y ho hd hcd hmg hobj hints hlen hbits hg => ?_
  have inK := ins w _ Y
  obtain ⟨fd, cs, sp, t1, t2, C, hb, hsp, run⟩ := F w mg fa _ Y inK G.T.g hmg fun y g hy hmy c P o1 fd1 e dd vs1 sl k1 k2 k3 k4 k5 => by
    obtain ⟨dL, hm, same⟩ := List.any_eq_true.mp hy
    obtain ⟨a', o', fd', c', P', h1, h2, h3, h4, h5, h6⟩ := G.T.tab dL hm
    rw [beq_iff_eq.mp same, hmy] at h1
    cases h1
    rw [inK _ _ k1] at h2
    cases h2
    rw [k2] at h3
    cases h3
    rw [k3] at h4
    cases h4
    obtain ⟨⟨oc, vc, e1, _, e3, e4⟩, free⟩ := h6
    rw [inK _ _ k4] at e1
    cases e1
    cases e3
    rw [k5] at e4
    cases e4
    exact free
  exact law_callTs inK G.T.g G.T.b G.T.builtins G.T.nolimit hg t1 t2 C G.T.bmain hobj hints (Nat.le_trans hlen size) room run hb (fun H hH hS => hsp H a ns hlen hbits hH hS) fun H e s' => never w H s₁ e s'
end LamX
namespace Say
open PySem PySem.Spec PyProof.Rows L2 L2.DX
theorem lets_ok {L : List Nat} (h : L ∈ lets) : LetOk L := by
  have : ∀ L ∈ lets, LetOk L := by
    intro L h
    simp only [lets, List.mem_cons, List.not_mem_nil, or_false] at h
    rcases h with rfl | rfl | rfl | rfl <;> exact ⟨by decide, by decide, by decide, by decide⟩
  exact this L h
/-- the data of a list of numbers -/
def iD (k : Nat) : PyData := .int (k : Nat)
theorem dp_ints {K : PySem.W.Frag} {H : Hp} : ∀ ks : List Nat, DpAll K H (natsV ks) (ks.map iD)
  | [] => .nil
  | k :: r => .cons (.int _) (dp_ints r)
theorem ints_lay : ∀ ks : List Nat, PyData.canLayAll0 (ks.map iD) = true ∧ PyData.depthAll (ks.map iD) = 0 ∧ PyData.eqvAll (ks.map iD) (ks.map iD) = true
  | [] => ⟨rfl, rfl, rfl⟩
  | k :: r => by
    obtain ⟨h1, h2, h3⟩ := ints_lay r
    refine ⟨?_, ?_, ?_⟩
    · rw [List.map_cons]
      show (PyData.canLay0 (iD k) && PyData.canLayAll0 (r.map iD)) = true
      rw [h1, Bool.and_true]
      rfl
    · rw [List.map_cons]
      show max (PyData.depth (iD k)) (PyData.depthAll (r.map iD)) = 0
      rw [h2]
      rfl
    · rw [List.map_cons]
      show (PyData.eqv (iD k) (iD k) && PyData.eqvAll (r.map iD) (r.map iD)) = true
      rw [h3, Bool.and_true]
      show (((k : Nat) : Int) == ((k : Nat) : Int)) = true
      simp
theorem ints_shaped (ks : List Nat) : SeqAt.shaped (.list (ks.map iD)) = true := by
  obtain ⟨h1, h2, _⟩ := ints_lay ks
  unfold SeqAt.shaped
  rw [Bool.and_eq_true]
  refine ⟨h1, decide_eq_true ?_⟩
  show PyData.depthAll (ks.map iD) + 1 ≤ 64
  omega
/-- the data of samples -/
def eD (e : Exc) : PyData := .tuple [.str (T e.1), .str (T e.2)]
theorem dp_samps {K : PySem.W.Frag} {H : Hp} : ∀ {ts : List Addr} {ss : List Exc}, Paired (fun t (e : Exc) => H t = some (.tup [.str (T e.1), .str (T e.2)])) ts ss → DpAll K H (ts.map V.ref) (ss.map eD)
  | _, _, .nil => .nil
  | _, _, .cons h r => .cons (.tup (.inl (.inl h)) (.cons (.str _) (.cons (.str _) .nil))) (dp_samps r)
theorem samps_lay : ∀ ss : List Exc, (∀ e ∈ ss, (∀ c ∈ e.1, c < 1114112) ∧ ∀ c ∈ e.2, c < 1114112) → PyData.canLayAll0 (ss.map eD) = true ∧ PyData.depthAll (ss.map eD) ≤ 1
  | [], _ => ⟨rfl, Nat.zero_le _⟩
  | e :: r, h => by
    obtain ⟨h1, h2⟩ := samps_lay r fun x hx => h x (List.mem_cons_of_mem _ hx)
    obtain ⟨g1, g2⟩ := h e List.mem_cons_self
    refine ⟨?_, ?_⟩
    · rw [List.map_cons]
      show (PyData.canLay0 (eD e) && PyData.canLayAll0 (r.map eD)) = true
      rw [h1, Bool.and_true]
      show (PyData.strOk (T e.1) && (PyData.strOk (T e.2) && true)) = true
      rw [strOk_T g1, strOk_T g2]
      rfl
    · rw [List.map_cons]
      show max (PyData.depth (eD e)) (PyData.depthAll (r.map eD)) ≤ 1
      exact Nat.max_le.mpr ⟨Nat.le_refl _, h2⟩
theorem samps_shaped {ss : List Exc} (h : ∀ e ∈ ss, (∀ c ∈ e.1, c < 1114112) ∧ ∀ c ∈ e.2, c < 1114112) : SeqAt.shaped (.list (ss.map eD)) = true := by
  obtain ⟨h1, h2⟩ := samps_lay ss h
  unfold SeqAt.shaped
  rw [Bool.and_eq_true]
  refine ⟨h1, decide_eq_true ?_⟩
  show PyData.depthAll (ss.map eD) + 1 ≤ 64
  omega
theorem cut1 (ts : List Addr) : cutV (ts.map V.ref) none (some 1) = (ts.take 1).map V.ref := by
  cases ts with
  | nil => rfl
  | cons t r => exact cut_lo (t :: r) 1 (by simp)
/-- samples that rules say -/
structure Samp (L : List Nat) (rs : List Rule) (ss : List Exc) (n : Nat) : Prop where
  ok : ∀ e ∈ ss, ExcOk L e
  len : ss.length ≤ n
  s35 : ∀ e ∈ ss, e.2.length ≤ 35
  say : ∀ e ∈ ss, sayW rs e.1 = some e.2
theorem Samp.nil {L : List Nat} {rs : List Rule} : Samp L rs [] 0 := ⟨fun e he => (nomatch he), Nat.le_refl _, fun e he => (nomatch he), fun e he => (nomatch he)⟩
theorem Samp.mono {L : List Nat} {rs : List Rule} {ss : List Exc} {n m : Nat} (h : Samp L rs ss n) (e : n ≤ m) : Samp L rs ss m := ⟨h.ok, Nat.le_trans h.len e, h.s35, h.say⟩
theorem Samp.snoc {L : List Nat} {rs : List Rule} {ss : List Exc} {n : Nat} {wd so : List Nat} (h : Samp L rs ss n) (w : ∀ c ∈ wd, c ∈ L) (w1 : 1 ≤ wd.length) (w8 : wd.length ≤ 8) (s : ∀ c ∈ so, 65 ≤ c ∧ c ≤ 90) (s35 : so.length ≤ 35) (hs : sayW rs wd = some so) : Samp L rs (ss ++ [(wd, so)]) (n + 1) := by
  refine ⟨fun e he => ?_, by rw [List.length_append]; exact Nat.succ_le_succ h.len, fun e he => ?_, fun e he => ?_⟩
  · rcases List.mem_append.mp he with he | he
    · exact h.ok e he
    · rw [List.mem_singleton.mp he]
      exact ⟨w, w1, w8, s, by show so.length ≤ 36; omega⟩
  · rcases List.mem_append.mp he with he | he
    · exact h.s35 e he
    · rw [List.mem_singleton.mp he]
      exact s35
  · rcases List.mem_append.mp he with he | he
    · exact h.say e he
    · rw [List.mem_singleton.mp he]
      exact hs
theorem Samp.all {L : List Nat} {rs : List Rule} {ss : List Exc} {n : Nat} (h : Samp L rs ss n) : saysAll rs ss = true := List.all_eq_true.mpr fun e he => decide_eq_true (h.say e he)
theorem Samp.signs {L : List Nat} {rs : List Rule} {ss : List Exc} {n : Nat} (hL : LetOk L) (h : Samp L rs ss n) : ∀ e ∈ ss, (∀ c ∈ e.1, c < 1114112) ∧ ∀ c ∈ e.2, c < 1114112 := fun e he =>
  ⟨fun c hc => by have := hL.az c ((h.ok e he).w c hc); omega, fun c hc => by have := (h.ok e he).s c hc; omega⟩
theorem SampsAt.stp {H H' : Hp} {r a S : Addr} {ss : List Exc} (h : SampsAt H S ss) (w : RowIn H r a) (e : Stp r H H') (n : S ≠ r) : SampsAt H' S ss := by
  obtain ⟨ts, h1, h2⟩ := h
  have k := Stp.kt e w
  exact ⟨ts, e _ _ h1 n, paired_mono (fun t ρ q => k.1 _ _ q) h2⟩
def zed (e : Exc) : Exc := (e.1, e.2 ++ [90])
/-- how the law stands -/
structure S8 (K : PySem.W.Frag) (Ts : List (Addr × Str)) (r a R S : Addr) (ns : List Int) (rs : List Rule) (ss : List Exc) (H : Hp) : Prop where
  Rw : RowAt K H r a ns
  Tb : LamX.Tabs Ts H
  hR : RulesAt H R rs
  hS : SampsAt H S ss
  nS : S ≠ r
section
variable {K : PySem.W.Frag} {Ts : List (Addr × Str)} {r a R S : Addr} {ns : List Int} {L : List Nat} {rs : List Rule} {ss : List Exc} {H H' : Hp}
theorem S8.same (h : S8 K Ts r a R S ns rs ss H) (s : Same H H') : S8 K Ts r a R S ns rs ss H' := ⟨h.Rw.stp s, h.Tb.ext s, h.hR.kt (.of s), h.hS.same s, h.nS⟩
theorem S8.extN (h : S8 K Ts r a R S ns rs ss H) (s : LamX.ExtN H H') (t : LamX.Tabs Ts H') : S8 K Ts r a R S ns rs ss H' := ⟨h.Rw.extN s, t, h.hR.kt (.extN s), h.hS.extN s, h.nS⟩
theorem S8.stp (h : S8 K Ts r a R S ns rs ss H) (s : Stp r H H') (R' : RowAt K H' r a ns) : S8 K Ts r a R S ns rs ss H' := ⟨R', tabs_stp h.Tb h.Rw.in s, h.hR.kt (h.Rw.kt s), h.hS.stp h.Rw.in s h.nS, h.nS⟩
theorem S8.samps {S' : Addr} {ss' : List Exc} (h : S8 K Ts r a R S ns rs ss H) (g : SampsAt H S' ss') (n : S' ≠ r) : S8 K Ts r a R S' ns rs ss' H := ⟨h.Rw, h.Tb, h.hR, g, n⟩
theorem S8.rowne (h : S8 K Ts r a R S ns rs ss H) (e : H r = none) : False := h.Rw.nw e rfl
/-- (letters, rules, ()) -/
theorem bare_gives {σ : L2.St} {H7 : Hp} {i j : Nat} (h3 : σ[i]? = some (some (.str (T L)))) (h4 : σ[j]? = some (some (.ref R))) (hR : RulesAt H7 R rs) (H' : Hp) (Q' : VK) (s' : Same H7 H')
    (k : ∀ (b : Addr) (H'' : Hp), Same H' H'' → BookAt H'' b L rs [] → Q' (.ref b) H'') : (tTup (tCons (tVar i) (tCons (tVar j) (tCons (tTupN tNil) tNil)))) σ H' Q' := by
  refine ⟨_, h3, _, h4, (by show 0 ≤ sizeLine; decide), fun p op hop hp => ⟨(by show 3 ≤ sizeLine; decide), fun e he => ?_⟩⟩
  have s3 := same_new hp (.frz op (.tup []))
  have s4 := same_new he (.tup [.str (T L), .ref R, .ref p])
  have s34 := s3.trans s4
  exact k e _ s34 ⟨R, p, upd_same, (hR.kt (.of s')).kt (.of s34), ⟨[], ⟨op, s4 _ _ upd_same, hop⟩, .nil⟩⟩
theorem said_tB {mg : Str → Option Value} {CU : Addr} {wd : List Nat} {H7 : Hp} {Q : VK} {σ : L2.St} {j : Nat} {tb : TE} (WC : WordC K mg CU 4) (h4 : σ[j]? = some (some (.str (T wd))))
    (hb : ∀ (H' : Hp) (Q' : VK), Same H7 H' → (∀ (b : Addr) (H'' : Hp), Same H' H'' → BookAt H'' b L rs [] → Q' (.ref b) H'') → tb σ H' Q') (oB : BookOk L rs []) (hw : ∀ c ∈ wd, c ∈ L) (hl : wd.length ≤ 12)
    (h : ∀ (t : Addr) (H8 : Hp), Same H7 H8 → H8 t = some (.tup (saidV rs [] wd)) → Q (.ref t) H8) : TTw K mg (fun E H' Q' => tCall (spSaidR CU) [] E (tCons tb (tCons (tVar j) tNil)) σ H' Q') H7 Q := by
  intro D hD post hpost
  have sD := same_new hD (.lst [])
  refine hb _ _ sD fun b H1 s1 hB => ?_
  have s01 := sD.trans s1
  have hD1 : H1 D = some (.lst []) := s1 _ _ upd_same
  refine ⟨_, h4, b, L, rs, [], wd, rfl, hB, oB, hw, hl, fun so hM H' s' => ?_, fun hM p hp d H' s' hd hH => ?_⟩
  · refine hpost _ _ (s' _ _ hD1) fun t H8 s8 ht => h t H8 (same_stp (s01.trans s') hD s8) ?_
    unfold saidV
    rw [hM, ht, show (("" : Str)) = T [] from nil_eq]
  · refine ⟨CU, 4, _, WC, rfl, .inl ⟨rfl, d, p, rfl, hH, rfl⟩, fun t H8 s8 ht => h t H8 (s01.trans (s'.trans s8)) ?_⟩
    unfold saidV
    rw [hM, hp]
    exact ht
end
section
variable {P : Program} {w : World} {K : PySem.W.Frag} {mg : Str → Option Value} {base : Heap}
abbrev sLaw : Stmt := topS 72
abbrev nLaw : List Str := ["_law_script", "_law_row_here", "_law_turn", "_law_letters_here", "_law_rules_here", "_law_samples", "_law_k", "_law_word_here", "_law_plain", "_law_numbers", "_law_some", "_law_more", "_law_number", "_law_sounds"]
theorem scLaw : FnScope nLaw ["_law_script"] (defScope sLaw) := ⟨rfl, rfl, rfl, by decide +kernel, rfl, by decide +kernel, by decide +kernel⟩
def qLam : Str := (PySem.W.envX "law" (defScope sLaw) 0 0 (.ref 0) []).qual ++ "<lambda>"
def spLawT2 (K : PySem.W.Frag) (Pt PT : Addr) : Sp := fun vs H Q _ => ∃ (a : Addr) (ns : List Int), vs = [.ref a] ∧ SqL K H a (ns.map V.int) ∧ ns.length ≤ 63 ∧ H Pt = some (.tbl #[]) ∧ H PT = some (.tbl #[]) ∧ ∀ H', Q (.bl true) H'
abbrev stPass : Stmt := .Pass ⟨0, 0, 0, 0⟩
abbrev stL : Stmt := (defBody sLaw).getD 1 stPass
abbrev bdL : List Stmt := match stL with | .For _ _ b _ _ => b | _ => []
abbrev st2 : Stmt := bdL.getD 2 stPass
abbrev st7 : Stmt := bdL.getD 7 stPass
abbrev st9 : Stmt := bdL.getD 9 stPass
theorem ok_law {f cL Pt PA gW fSd CU : Addr} {fdW fdSd : FuncData} {oc : Value} {od an : Option Addr} {osl : Array (Option Value)} {kV doc pm ct : Value}
    (lk : K.lookup f = some ⟨oc, od, .func (PySem.W.fnOf "law" "law" (defArgs sLaw) (defBody sLaw) (defScope sLaw) .none kV doc pm an (.ref cL) ct), osl⟩) (hcd : PySem.W.codeIn K (.ref cL) "law" = true)
    (TB : LamX.TabB base mg cL Pt) (nP : Pt ≠ PA) (B : Bn mg) (WC : WordC K mg CU 4) (mInt : mg "int" = none)
    (FW : Fun K "_law_word" "_law_word" sLWo gW fdW) (mW : mg "_law_word" = some (.ref gW)) (GSd : FnOk P w K mg base (L2.CX P w) 7 fSd fdSd ["book", "word"] (spSaidR CU)) (kSd : PySem.W.keepIn K (.ref fSd) = true) (bSd : Binds K fdSd ["book", "word"] []) (mSd : mg "said" = some (.ref fSd))
    (DRo : Df P w K mg base "_law_row" ["_law_script"] 1 (spRow K)) (DT : Df P w K mg base "_law_taken" ["_law_row_here", "_law_many"] 1 (spTaken K)) (DLe : Df P w K mg base "_law_letters" ["_law_row_here"] 2 (spLetters K)) (DRu : Df P w K mg base "_law_rules" ["_law_row_here", "_law_letters_here", "_law_most"] 4 (spRules K))
    (DX : Df P w K mg base "_law_text" ["_law_row_here", "_law_signs", "_law_fewest", "_law_many"] 2 (spText K)) (DBl : Df P w K mg base "blamed" ["letters", "rules", "samples"] 8 spBl) (DLe2 : Df P w K mg base "least" ["letters", "rules", "samples"] 10 (spLe [(Pt, qLam), (PA, qAre)])) :
    FnOk P w K mg base CX0 11 f (PySem.W.fnOf "law" "law" (defArgs sLaw) (defBody sLaw) (defScope sLaw) .none kV doc pm an (.ref cL) ct) ["_law_script"] (spLawT2 K Pt PA) := by
  obtain ⟨fRo, fdRo, GRo, kRo, bRo, mRo⟩ := DRo
  obtain ⟨fT, fdT, GT, kT, bT, mT⟩ := DT
  obtain ⟨fLe, fdLe, GLe, kLe, bLe, mLe⟩ := DLe
  obtain ⟨fRu, fdRu, GRu, kRu, bRu, mRu⟩ := DRu
  obtain ⟨fX, fdX, GX, kX, bX, mX⟩ := DX
  obtain ⟨fBl, fdBl, GBl, kBl, bBl, mBl⟩ := DBl
  obtain ⟨fLe2, fdLe2, GLe2, kLe2, bLe2, mLe2⟩ := DLe2
  obtain ⟨cS, mS, _⟩ := id WC.say
  obtain ⟨ocW, odW, kVW, docW, pmW, anW, cdvW, ctW, oslW, eW, lkW, hcW⟩ := FW.ex
  have kW := FW.kp
  have bW : Binds K fdW ["_law_work"] [] := FW.binds fun _ _ _ _ _ _ us hl => match us, hl with | [_], _ => rfl
  subst eW
  have hmT : (Pt, qLam) ∈ ([(Pt, qLam), (PA, qAre)] : List (Addr × Str)) := by simp
  have huT : ∀ p ∈ ([(Pt, qLam), (PA, qAre)] : List (Addr × Str)), p.1 = Pt → p.2 = qLam := fun p hp e => by
    rcases List.mem_cons.mp hp with rfl | hp
    · rfl
    · rw [List.mem_singleton.mp hp] at e
      exact absurd e.symm nP
  refine fn_of lk hcd scLaw (fun vs H Q E h => ?_) (fun A outer s H vs Q E hr h => ?_)
  · obtain ⟨a, ns, rfl, _⟩ := h
    rfl
  · obtain ⟨a, ns, rfl, hSc, hle, hPt, hPA, q⟩ := h
    suffices hh : ∃ t, PSs (cxOf CX0 P w K mg base nLaw "law" (defScope sLaw) f (.ref cL) A outer s H E).nox (defBody sLaw) t ∧ t { nx := fun _ H' => Q .non H', rt := Q } (start nLaw [.ref a]) H by
      obtain ⟨t, h1, h2⟩ := hh
      exact ⟨t, h1.nox, h2⟩
    have hr1 : Room 1 _ := hr.mono (by decide)
    have hr2 : Room 2 _ := hr.mono (by decide)
    have hr4 : Room 4 _ := hr.mono (by decide)
    have hr8 : Room 8 _ := hr.mono (by decide)
    have hr9 : Room (7 + 2) _ := hr.mono (by decide)
    have hr10 : Room 10 _ := hr
    -- the samples
    obtain ⟨t2, ps2, q2⟩ : ∃ t2 : TS, PS (cxOf CX0 P w K mg base nLaw "law" (defScope sLaw) f (.ref cL) A outer s H E).nox st2 t2 ∧
        ∀ (D : Ends) (r R S : Addr) (L : List Nat) (rs : List Rule) (v2 v6 v7 v8 v9 v10 v11 v12 v13 : Option V) (H9 : Hp), LetOk L → (∀ ρ ∈ rs, RuleOk L ρ) → rs.length ≤ 10 → S8 K [(Pt, qLam), (PA, qAre)] r a R S ns rs [] H9 →
          (∀ (S : Addr) (ss : List Exc) (v6 v7 v8 : Option V) (H' : Hp), S8 K [(Pt, qLam), (PA, qAre)] r a R S ns rs ss H' → Samp L rs ss 8 → D.nx [some (.ref a), some (.ref r), v2, some (.str (T L)), some (.ref R), some (.ref S), v6, v7, v8, v9, v10, v11, v12, v13] H') →
          t2 D [some (.ref a), some (.ref r), v2, some (.str (T L)), some (.ref R), some (.ref S), v6, v7, v8, v9, v10, v11, v12, v13] H9 := by
      refine ⟨_, (ps_for PassesOwn.never rfl (pi_range1 (by rfl) B.rng (pa_cons (pe_op op_add pe_int (pe_call GT hr1 (by rfl) mT kT bT .nil pass0 (pa_cons (pv 1) (pa_cons pe_int pa_nil)))) pa_nil)) (pg_name (i := 6) scLaw.nd rfl (.inl rfl)) (pss_cons (ps_set (i := 7) scLaw.nd rfl (.inr rfl) (pe_call GX hr2 (by rfl) mX kX bX .nil pass0 (pa_cons (pv 1) (pa_cons (pv 3) (pa_cons pe_int (pa_cons pe_int pa_nil))))))
        (pss_cons (ps_set (i := 8) scLaw.nd rfl (.inl rfl) (LamX.pe_lamcall (T := [(Pt, qLam), (PA, qAre)]) (k := 7) (t := fun E => tCall (spSaidR CU) [] E (tCons (tTup (tCons (tVar 3) (tCons (tVar 4) (tCons (tTupN tNil) tNil)))) (tCons (tVar 7) tNil))) (by rfl) mW kW lkW hcW bW scLWo rfl (by exact .inl rfl) (word_gives B mS) TB rfl hmT huT hr9 (LamX.lamS_by (by show LamX.lamSB (defScope sLaw) _ = true; decide +kernel)) rfl (fun _ _ _ _ _ => rfl)
            (fun A' outer' s' H' E' f' c' hr' => pe_call (E := E') GSd hr' (by rfl) mSd kSd bSd .nil (passes_call (W := fun cls d _ H => E' cls d H) (takes_of rfl rfl rfl rfl) (fun _ _ _ _ h => h)) (pa_cons (pe_tup (pa_cons (pv 3) (pa_cons (pv 4) (pa_cons (pe_tupN pa_nil) pa_nil)))) (pa_cons (pv 7) pa_nil)))))
        (pss_one (ps_set (i := 5) scLaw.nd rfl (.inl rfl) (pe_op op_cat (pv 5) (pe_op op_rep (pe_lst (pa_cons (pe_tup (pa_cons (pv 7) (pa_cons (pe_ix ix_tup (pv 8) pe_int (fun _ _ => rfl)) pa_nil))) pa_nil)) (pe_callTy call_int1 (by rfl) mInt (by decide +kernel) (pa_cons (pe_cmpR op_eq (pe_ix ix_tup (pv 8) pe_int (fun _ _ => rfl)) pe_str (nomark _)) pa_nil))))))))), ?_⟩
      intro D r R S L rs v2 v6 v7 v8 v9 v10 v11 v12 v13 H9 oL ho h10 h0 qn
      have oB : BookOk L rs [] := ⟨oL, ho, by omega, fun e he => (nomatch he), Nat.zero_le _, .nil⟩
      have l2 := oL.l2
      have l4 := oL.l4
      refine ⟨_, rfl, r, a, ns, 8, rfl, h0.Rw, by decide, by decide, fun n H1 n0 n1 s1 R1 => ?_⟩
      have h1 := h0.stp s1 R1
      refine ⟨_, _, rfl, rfl, 1 + n, rfl, by omega, by omega, for_it (walk_range) (fun i σ H' => ∃ (S : Addr) (ss : List Exc) (v6 v7 v8 : Option V), σ = [some (.ref a), some (.ref r), v2, some (.str (T L)), some (.ref R), some (.ref S), v6, v7, v8, v9, v10, v11, v12, v13] ∧ S8 K [(Pt, qLam), (PA, qAre)] r a R S ns rs ss H' ∧ Samp L rs ss i)
        ⟨S, [], _, _, _, rfl, h1, Samp.nil⟩ (fun _ _ _ _ _ => trivial) ?_ ?_⟩
      · rintro i xv σ H2 H2' hi ⟨S, ss, v6, v7, v8, rfl, h2, hsm⟩ ⟨rfl, rfl⟩
        have hi8 : i < 8 := by omega
        refine ⟨_, rfl, _, rfl, r, a, ns, L, 1, 6, rfl, h2.Rw, by omega, by omega, by decide, by decide, fun wd H3 hw1 hw2 hw3 s3 R3 => ?_⟩
        have h3 := h2.stp s3 R3
        simp only [List.set_cons_succ, List.set_cons_zero]
        refine ⟨h3.Tb, fun H4 e4 T4 => ?_⟩
        have h4 := h3.extN e4 T4
        refine said_tB WC rfl (fun H' Q' s' k => bare_gives (L := L) rfl rfl h4.hR H' Q' s' k) oB hw1 (by omega) fun t H5 s5 ht => ?_
        have h5 := h4.same s5
        simp only [List.set_cons_succ, List.set_cons_zero]
        obtain ⟨ts, hS5, hp5⟩ := id h5.hS
        have lts := paired_len hp5
        have hl8 := hsm.len
        obtain ⟨u, zz, ht, hu⟩ : ∃ (u : Str) (zz : V), H5 t = some (.tup [.str u, zz]) ∧ ((u = T [] ∧ ∃ so, zz = .str (T so) ∧ sayW rs wd = some so) ∨ decide (V.str u = V.str (Str.ofString "")) = false) := by
          unfold saidV at ht
          rw [show saidM rs [] wd = sayW rs wd from rfl] at ht
          cases eS : sayW rs wd with
          | some so =>
            rw [eS] at ht
            exact ⟨T [], .str (T so), ht, .inl ⟨rfl, so, rfl, rfl⟩⟩
          | none =>
            rw [eS] at ht
            exact ⟨Str.ofString "unsaid", _, ht, .inr (by decide +kernel)⟩
        refine ⟨_, rfl, _, rfl, _, rfl, t, _, 1, zz, rfl, rfl, .inl (.inl ht), atI_nat (j := 1) rfl, (by show 2 ≤ sizeLine; decide), fun x hx => ⟨(by show 1 ≤ sizeLine; decide), fun p hp => ?_⟩⟩
        have m5 := same_new hx (.tup [.str (T wd), zz])
        have m6 := m5.trans (same_new hp (.lst [.ref x]))
        have h6 := h5.same m6
        have ht6 := m6 _ _ ht
        have hS6 := m6 _ _ hS5
        have hp6 : (upd (upd H5 x (.tup [.str (T wd), zz])) p (.lst [.ref x])) p = some (.lst [.ref x]) := upd_same
        have hx6 : (upd (upd H5 x (.tup [.str (T wd), zz])) p (.lst [.ref x])) x = some (.tup [.str (T wd), zz]) := (same_new hp (.lst [.ref x])) _ _ upd_same
        generalize upd (upd H5 x (.tup [.str (T wd), zz])) p (.lst [.ref x]) = H6 at m6 h6 ht6 hS6 hp6 hx6 ⊢
        refine ⟨_, rfl, t, _, 0, .str u, rfl, rfl, .inl (.inl ht6), atI_nat (j := 0) rfl, rfl, .inr ⟨_, rfl, ?_⟩⟩
        refine ⟨p, _, [.ref x], rfl, rfl, hp6, (by split <;> decide), (by split <;> decide), (by show 1 * Int.toNat _ ≤ sizeLine; split <;> decide), fun p2 hp2 => ?_⟩
        rcases hu with ⟨rfl, so, rfl, hso⟩ | cu
        · rw [show decide (V.str (T []) = V.str (Str.ofString "")) = true from by decide +kernel]
          have m7 := same_new hp2 (.lst (List.replicate (if true = true then (1 : Int) else 0).toNat [V.ref x]).flatten)
          have h7 := h6.same m7
          have hS7 := m7 _ _ hS6
          have hx7 := m7 _ _ hx6
          have hp7 : (upd H6 p2 (.lst (List.replicate (if true = true then (1 : Int) else 0).toNat [V.ref x]).flatten)) p2 = some (.lst [V.ref x]) := upd_same
          generalize upd H6 p2 (.lst (List.replicate (if true = true then (1 : Int) else 0).toNat [V.ref x]).flatten) = H7 at m7 h7 hS7 hp7 hx7 ⊢
          refine ⟨S, p2, _, _, rfl, rfl, hS7, hp7, ?_, fun p3 hp3 => ?_⟩
          · rw [List.length_map]
            exact small1000 (by omega)
          · have m8 := same_new hp3 (.lst (ts.map V.ref ++ [V.ref x]))
            have h8 := h7.same m8
            obtain ⟨g1, g2⟩ := say_caps ho oL hso
            refine ⟨p3, ss ++ [(wd, so)], _, _, _, rfl, h8.samps ⟨ts ++ [x], by rw [upd_same, List.map_append]; rfl, paired_app (paired_mono (fun t' e q => m8 _ _ q) (paired_mono (fun t' e q => (m6.trans m7) _ _ q) hp5)) (.cons (m8 _ _ hx7) .nil)⟩ (fun z => by rw [z] at hp3; exact h7.rowne hp3), hsm.snoc hw1 (by omega) (by omega) g1 (by omega) hso⟩
        · rw [cu]
          have m7 := same_new hp2 (.lst (List.replicate (if false = true then (1 : Int) else 0).toNat [V.ref x]).flatten)
          have h7 := h6.same m7
          have hS7 := m7 _ _ hS6
          have hp7 : (upd H6 p2 (.lst (List.replicate (if false = true then (1 : Int) else 0).toNat [V.ref x]).flatten)) p2 = some (.lst []) := upd_same
          generalize upd H6 p2 (.lst (List.replicate (if false = true then (1 : Int) else 0).toNat [V.ref x]).flatten) = H7 at m7 h7 hS7 hp7 ⊢
          refine ⟨S, p2, _, _, rfl, rfl, hS7, hp7, ?_, fun p3 hp3 => ?_⟩
          · rw [List.length_map]
            exact Nat.le_of_lt (small1000 (n := ts.length + 0) (by omega))
          · have m8 := same_new hp3 (.lst (ts.map V.ref ++ []))
            have h8 := h7.same m8
            exact ⟨p3, ss, _, _, _, rfl, h8.samps ⟨ts, by rw [upd_same, List.append_nil], paired_mono (fun t' e q => m8 _ _ q) (paired_mono (fun t' e q => (m6.trans m7) _ _ q) hp5)⟩ (fun z => by rw [z] at hp3; exact h7.rowne hp3), hsm.mono (Nat.le_succ _)⟩
      · rintro σ H2 ⟨S, ss, v6, v7, v8, rfl, h2, hsm⟩
        exact qn S ss _ _ _ H2 h2 (hsm.mono (by omega))
    -- none of the fewest can be left out
    obtain ⟨t7, ps7, q7⟩ : ∃ t7 : TS, PS (cxOf CX0 P w K mg base nLaw "law" (defScope sLaw) f (.ref cL) A outer s H E).nox st7 t7 ∧
        ∀ (D : Ends) (r R S M : Addr) (L : List Nat) (rs : List Rule) (ss : List Exc) (l : List Nat) (v2 v6 v7 v8 v9 v11 v12 v13 : Option V) (H9 : Hp), LetOk L → (∀ ρ ∈ rs, RuleOk L ρ) → rs.length ≤ 10 → S8 K [(Pt, qLam), (PA, qAre)] r a R S ns rs ss H9 → Samp L rs ss 8 → LeastV rs ss (some l) → RulesAt H9 M (pickR rs l) →
          (∀ (v6 : Option V) (H' : Hp), S8 K [(Pt, qLam), (PA, qAre)] r a R S ns rs ss H' → D.nx [some (.ref a), some (.ref r), v2, some (.str (T L)), some (.ref R), some (.ref S), v6, v7, v8, v9, some (.ref M), v11, v12, v13] H') → t7 D [some (.ref a), some (.ref r), v2, some (.str (T L)), some (.ref R), some (.ref S), v6, v7, v8, v9, some (.ref M), v11, v12, v13] H9 := by
      refine ⟨_, (ps_for PassesOwn.never rfl (pi_range1 (by rfl) B.rng (pa_cons (pe_callB call_len (by rfl) B.len PySem.boot_len (pa_cons (pv 10) pa_nil)) pa_nil)) (pg_name (i := 6) scLaw.nd rfl (.inl rfl)) (pss_one (ps_if (pt_cmpR (op_eqD hr.units) (pe_call GBl hr8 (by rfl) mBl kBl bBl .nil pass0 (pa_cons (pv 3) (pa_cons (pe_op op_catU (pe_slice sl_tupU (pv 10) po_none (po_some (pv 6))) (pe_slice sl_tupU (pv 10) (po_some (pe_op op_add (pv 6) pe_int)) po_none)) (pa_cons (pv 5) pa_nil)))) (pe_lst pa_nil) (nomark _)) (pss_one (ps_ret pe_bl)) pss_nil))), ?_⟩
      intro D r R S M L rs ss l v2 v6 v7 v8 v9 v11 v12 v13 H9 oL ho h10 h0 hsm hv hM qn
      obtain ⟨mts, hMt, hMp⟩ := id hM
      have pl : (pickR rs l).length = l.length := by unfold pickR; rw [List.length_map]
      have lm : (mts.map V.ref).length = l.length := by rw [List.length_map, paired_len hMp, pl]
      have hlr := rise_len hv.1
      have hl8 := hsm.len
      have hkl := rise_mem hv.1
      refine ⟨_, rfl, _, _, rfl, .inr ⟨_, .inl (.inl hMt), rfl⟩, _, rfl, by omega, by rw [lm]; omega, ?_⟩
      rw [lm, show ((l.length : Nat) : Int).toNat = l.length by omega]
      refine for_it (walk_range (lo := 0) (n := l.length)) (fun i σ H' => ∃ (v6 : Option V), σ = [some (.ref a), some (.ref r), v2, some (.str (T L)), some (.ref R), some (.ref S), v6, v7, v8, v9, some (.ref M), v11, v12, v13] ∧ S8 K [(Pt, qLam), (PA, qAre)] r a R S ns rs ss H' ∧ RulesAt H' M (pickR rs l)) ⟨_, rfl, h0, hM⟩ (fun _ _ _ _ _ => trivial) ?_ ?_
      · rintro i xv σ H2 H2' hi ⟨v6, rfl, h2, hM2⟩ ⟨rfl, rfl⟩
        obtain ⟨ts2, hMt2, hMp2⟩ := id hM2
        have l2 : ts2.length = l.length := by rw [paired_len hMp2, pl]
        simp only [Int.zero_add, List.set_cons_succ, List.set_cons_zero]
        refine ⟨_, rfl, _, rfl, _, rfl, _, rfl, M, _, rfl, hMt2, fun p1 H3 s3 g1 => ?_⟩
        rw [cut_lo ts2 i (by omega)] at g1
        refine ⟨_, rfl, _, rfl, _, _, rfl, rfl, _, rfl, M, _, rfl, s3 _ _ hMt2, fun p2 H4 s4 g2 => ?_⟩
        rw [show ((i : Int) + 1) = ((i + 1 : Nat) : Int) by omega, cut_hi ts2 (i + 1) (by omega)] at g2
        refine ⟨p1, p2, _, _, rfl, rfl, s4 _ _ g1, g2, (by simp only [List.length_map, List.length_take, List.length_drop]; exact small (by omega)), fun p3 H5 s5 g3 => ?_⟩
        have s25 := s3.trans (s4.trans s5)
        have h5 := h2.same s25
        have hO : RulesAt H5 p3 ((pickR rs l).take i ++ (pickR rs l).drop (i + 1)) := ⟨ts2.take i ++ ts2.drop (i + 1), by rw [g3, List.map_append], paired_mono (fun t ρ q => s25 _ _ q) (paired_app (paired_takeF i hMp2) (paired_dropF (i + 1) hMp2))⟩
        have memO : ∀ ρ ∈ (pickR rs l).take i ++ (pickR rs l).drop (i + 1), ρ ∈ pickR rs l := fun ρ hρ => by
          rcases List.mem_append.mp hρ with hρ | hρ
          · exact List.mem_of_mem_take hρ
          · exact List.mem_of_mem_drop hρ
        have lO : ((pickR rs l).take i ++ (pickR rs l).drop (i + 1)).length ≤ 12 := by
          rw [List.length_append, List.length_take, List.length_drop, pl]
          omega
        have out := least_out hv hi
        refine ⟨_, rfl, L, p3, S, _, ss, rfl, oL, hO, fun ρ hρ => pick_ok hkl ho ρ (memO ρ hρ), lO, h5.hS, hsm.ok, by omega, fun D2 H6 s6 hD2 e2 => ?_⟩
        refine ⟨(by show 0 ≤ sizeLine; decide), fun E1 hE1 => ?_⟩
        have s7 := same_new hE1 (.lst [])
        have e7 : (upd H6 E1 (.lst [])) E1 = some (.lst []) := upd_same
        have e27 := s7 _ _ e2
        have h7 := h5.same (s6.trans s7)
        have hM7 := hM2.kt (.of (s25.trans (s6.trans s7)))
        generalize upd H6 E1 (.lst []) = H7 at e7 e27 h7 hM7 ⊢
        have nb : blamM ((pickR rs l).take i ++ (pickR rs l).drop (i + 1)) ss ss.length ≠ [] := fun z => by
          rw [blam_nil.mp z] at out
          cases out
        refine ⟨_, _, .lst (.inl (.inl e27)) (dp_ints _), .lst (.inl (.inl e7)) .nil, ints_shaped _, rfl, _, rfl, ?_⟩
        cases hb : blamM ((pickR rs l).take i ++ (pickR rs l).drop (i + 1)) ss ss.length with
        | nil => exact absurd hb nb
        | cons k kr =>
          rw [show PyData.eqv (.list ((k :: kr).map iD)) (.list []) = false from rfl]
          refine iteF ?_
          exact ⟨_, rfl, h7, hM7⟩
      · rintro σ H2 ⟨v6, rfl, h2, _⟩
        exact qn _ _ h2
    -- samples that say a word two ways
    obtain ⟨t9, ps9, q9⟩ : ∃ t9 : TS, PS (cxOf CX0 P w K mg base nLaw "law" (defScope sLaw) f (.ref cL) A outer s H E).nox st9 t9 ∧
        ∀ (D : Ends) (r R S O : Addr) (L : List Nat) (rs : List Rule) (ss : List Exc) (v2 v6 v7 v8 v9 v10 v12 v13 : Option V) (H9 : Hp), LetOk L → (∀ ρ ∈ rs, RuleOk L ρ) → rs.length ≤ 10 → S8 K [(Pt, qLam), (PA, qAre)] r a R S ns rs ss H9 → Samp L rs ss 8 → SampsAt H9 O (ss ++ (ss.take 1).map zed) →
          (∀ (H' : Hp), S8 K [(Pt, qLam), (PA, qAre)] r a R S ns rs ss H' → D.nx [some (.ref a), some (.ref r), v2, some (.str (T L)), some (.ref R), some (.ref S), v6, v7, v8, v9, v10, some (.ref O), v12, v13] H') → t9 D [some (.ref a), some (.ref r), v2, some (.str (T L)), some (.ref R), some (.ref S), v6, v7, v8, v9, v10, some (.ref O), v12, v13] H9 := by
      refine ⟨_, (ps_if (PW.pt (pw_and (pt_cmpR (op_neD hr.units) (pv 5) (pe_lst pa_nil) (nomark _)) (pw_and1 (pt_cmpR op_notN (pe_call GLe2 hr10 (by rfl) mLe2 kLe2 bLe2 .nil pass0 (pa_cons (pv 3) (pa_cons (pv 4) (pa_cons (pv 11) pa_nil)))) pe_non (nomark _))))) (pss_one (ps_ret pe_bl)) pss_nil), ?_⟩
      intro D r R S O L rs ss v2 v6 v7 v8 v9 v10 v12 v13 H9 oL ho h10 h0 hsm hO qn
      have hl8 := hsm.len
      obtain ⟨ts, hSt, hSp⟩ := id h0.hS
      refine ⟨_, rfl, (by show 0 ≤ sizeLine; decide), fun E1 hE1 => ?_⟩
      have s1 := same_new hE1 (.lst [])
      have e1 : (upd H9 E1 (.lst [])) E1 = some (.lst []) := upd_same
      have h1 := h0.same s1
      have hO1 := hO.same s1
      have hSt1 := s1 _ _ hSt
      have hSp1 := paired_mono (fun t (e : Exc) q => s1 _ _ q) hSp
      generalize upd H9 E1 (.lst []) = H1 at e1 h1 hO1 hSt1 hSp1 ⊢
      refine ⟨_, _, .lst (.inl (.inl hSt1)) (dp_samps hSp1), .lst (.inl (.inl e1)) .nil, samps_shaped (hsm.signs oL), rfl, _, rfl, ?_⟩
      cases ss with
      | nil =>
        rw [show PyData.eqv (.list (([] : List Exc).map eD)) (.list []) = true from rfl]
        refine iteF ?_
        exact iteF (qn _ h1)
      | cons e0 er =>
        rw [show PyData.eqv (.list ((e0 :: er).map eD)) (.list []) = false from rfl]
        refine iteT ?_
        have he0 : e0 ∈ e0 :: er := List.mem_cons_self
        have ok0 := hsm.ok e0 he0
        have s35 := hsm.s35 e0 he0
        refine ⟨_, rfl, _, rfl, _, rfl, L, R, O, rs, _, rfl, oL, h1.hR, ho, by omega, hO1, fun e he => ?_, by simp only [List.length_append, List.length_map, List.length_take]; omega, h1.Tb, fun o v H2 e2 T2 hv hat => ?_⟩
        · rcases List.mem_append.mp he with he | he
          · exact hsm.ok e he
          · obtain ⟨x, hx, rfl⟩ := List.mem_map.mp he
            rw [List.mem_singleton.mp hx]
            refine ⟨ok0.w, ok0.w1, ok0.w8, fun c hc => ?_, by show (e0.2 ++ [90]).length ≤ 36; rw [List.length_append]; simp; omega⟩
            rcases List.mem_append.mp hc with hc | hc
            · exact ok0.s c hc
            · rw [List.mem_singleton.mp hc]
              decide
        · have eo := least_two (e1 := e0) (e2 := zed e0) (List.mem_append_left _ he0) (List.mem_append_right _ (List.mem_map.mpr ⟨e0, by simp, rfl⟩)) rfl (fun z => by
            have := congrArg List.length z
            unfold zed at this
            simp at this) hv
          subst eo
          cases (show v = .non from hat)
          refine ⟨rfl, _, rfl, ?_⟩
          exact iteF (qn _ (h1.extN e2 T2))
    -- a turn's rest
    obtain ⟨tR, psR, qR⟩ : ∃ tR : TS, PSs (cxOf CX0 P w K mg base nLaw "law" (defScope sLaw) f (.ref cL) A outer s H E).nox (bdL.drop 3) tR ∧
        ∀ (D : Ends) (r R S : Addr) (L : List Nat) (rs : List Rule) (ss : List Exc) (v2 v6 v7 v8 v9 v10 v11 v12 v13 : Option V) (H9 : Hp), LetOk L → (∀ ρ ∈ rs, RuleOk L ρ) → rs.length ≤ 10 → S8 K [(Pt, qLam), (PA, qAre)] r a R S ns rs ss H9 → Samp L rs ss 8 →
          (∀ (v3 v4 v5 v6 v7 v8 v9 v10 v11 v12 v13 : Option V) (H' : Hp), RowAt K H' r a ns → LamX.Tabs [(Pt, qLam), (PA, qAre)] H' → D.nx [some (.ref a), some (.ref r), v2, v3, v4, v5, v6, v7, v8, v9, v10, v11, v12, v13] H') → tR D [some (.ref a), some (.ref r), v2, some (.str (T L)), some (.ref R), some (.ref S), v6, v7, v8, v9, v10, v11, v12, v13] H9 := by
      refine ⟨_, pss_cons (ps_set (i := 9) scLaw.nd rfl (.inl rfl) (pe_call GLe2 hr10 (by rfl) mLe2 kLe2 bLe2 .nil pass0 (pa_cons (pv 3) (pa_cons (pv 4) (pa_cons (pv 5) pa_nil)))))
      (pss_cons (ps_if (PW.pt (pw_or (pt_cmpR op_isN (pv 9) pe_non (nomark _)) (pw_or1 (pt_cmpR (op_neD hr.units) (pe_call GBl hr8 (by rfl) mBl kBl bBl .nil pass0 (pa_cons (pv 3) (pa_cons (pv 4) (pa_cons (pv 5) pa_nil)))) (pe_lst pa_nil) (nomark _))))) (pss_one (ps_ret pe_bl)) pss_nil)
      (pss_cons (ps_set (i := 10) scLaw.nd rfl (.inl rfl) (pe_callTy call_tuple_of (by rfl) B.tup (by decide +kernel) (pa_cons (pe_lc (own := [("_law_number", 12)]) (g := gName 12) (te := tOp (rIxT K) (tVar 4) (tVar 12)) rfl scLaw.nd (pi_list (pv 9)) (blkOk_by (N := nLaw) (sc := defScope sLaw) (by decide +kernel)) (fun _ _ _ _ _ => pg_name (i := 12) scLaw.nd rfl (.inl rfl)) (fun _ _ _ _ _ => pts_nil) (fun _ _ _ _ _ => pe_ix ix_tup (pv 4) (pv 12) (fun _ _ => rfl))) pa_nil)))
      (pss_cons (ps_if (PW.pt (pw_or (pt_cmpR (op_neD hr.units) (pe_call GBl hr8 (by rfl) mBl kBl bBl .nil pass0 (pa_cons (pv 3) (pa_cons (pv 10) (pa_cons (pv 5) pa_nil)))) (pe_lst pa_nil) (nomark _)) (pw_or1 (pt_cmpR (op_neD hr.units) (pe_call GLe2 hr10 (by rfl) mLe2 kLe2 bLe2 .nil pass0 (pa_cons (pv 3) (pa_cons (pv 10) (pa_cons (pv 5) pa_nil)))) (pe_listRg rfl rfl B.lst (prg_1 rfl B.rng (pe_callB call_len (by rfl) B.len PySem.boot_len (pa_cons (pv 10) pa_nil)))) (nomark _))))) (pss_one (ps_ret pe_bl)) pss_nil)
      (pss_cons ps7
      (pss_cons (ps_set (i := 11) scLaw.nd rfl (.inl rfl) (pe_op op_cat (pv 5) (pe_lc (own := [("_law_word_here", 7), ("_law_sounds", 13)]) (g := gTup K 2 (gCons (gName 7) (gCons (gName 13) gNil))) (te := tTup (tCons (tVar 7) (tCons (tOp _ (tVar 13) (tC _)) tNil))) rfl scLaw.nd (pi_list (pe_slice sl_list (pv 5) po_none (po_some pe_int))) (blkOk_by (N := nLaw) (sc := defScope sLaw) (by decide +kernel)) (fun _ _ _ _ _ => pg_tup (by rfl) (pgs_cons (pg_name (i := 7) scLaw.nd rfl (.inl rfl)) (pgs_cons (pg_name (i := 13) scLaw.nd rfl (.inl rfl)) pgs_nil))) (fun _ _ _ _ _ => pts_nil) (fun _ _ _ _ _ => pe_tup (pa_cons (pv 7) (pa_cons (pe_op op_add_str (pv 13) pe_str) pa_nil))))))
      (pss_one ps9)))))), ?_⟩
      intro D r R S L rs ss v2 v6 v7 v8 v9 v10 v11 v12 v13 H9 oL ho h10 h0 hsm qn
      have hl8 := hsm.len
      refine ⟨_, rfl, _, rfl, _, rfl, L, R, S, rs, ss, rfl, oL, h0.hR, ho, by omega, h0.hS, hsm.ok, by omega, h0.Tb, fun o v H1 e1 T1 hv hat => ?_⟩
      have h1 := h0.extN e1 T1
      obtain ⟨l, rfl⟩ := least_some hsm.all hv
      obtain ⟨N, rfl, nN, hN⟩ := hat
      simp only [List.set_cons_succ, List.set_cons_zero]
      refine ⟨_, rfl, rfl, _, rfl, ?_⟩
      rw [show decide (V.ref N = V.non) = false from decide_eq_false (fun z => by cases z)]
      refine iteF ?_
      have hbl : blamM rs ss ss.length = [] := blam_nil.mpr hsm.all
      refine ⟨_, rfl, _, rfl, _, rfl, L, R, S, rs, ss, rfl, oL, h1.hR, ho, by omega, h1.hS, hsm.ok, by omega, fun D2 H2 s2 hD2 e2 => ?_⟩
      rw [hbl] at e2
      refine ⟨(by show 0 ≤ sizeLine; decide), fun E1 hE1 => ?_⟩
      have s3 := same_new hE1 (.lst [])
      have e3 : (upd H2 E1 (.lst [])) E1 = some (.lst []) := upd_same
      have e23 := s3 _ _ e2
      have h3 := h1.same (s2.trans s3)
      have hN3 := (s2.trans s3) _ _ hN
      generalize upd H2 E1 (.lst []) = H3 at e3 e23 h3 hN3 ⊢
      refine ⟨_, _, .lst (.inl (.inl e23)) .nil, .lst (.inl (.inl e3)) .nil, rfl, rfl, _, rfl, ?_⟩
      rw [show PyData.eqv (.list []) (.list []) = true from rfl]
      refine iteF ?_
      -- the rules of these numbers
      obtain ⟨rts, hRt, hRp⟩ := id h3.hR
      have hkl := rise_mem hv.1
      have hll := rise_len hv.1
      refine ⟨_, rfl, N, rfl, ⟨_, .inl (.inl hN3)⟩, fun D4 hD4 => ?_⟩
      refine lc_it (walk_list (xs := natsV l)) (fun t H5 => H5 D4 = some (.lst (((l.take t).map fun k => rts.getD k 0).map V.ref)) ∧ Same H3 H5) ?_ (fun t H5 _ h => .inl (.inl (h.2 _ _ hN3))) ?_ ?_
      · exact ⟨upd_same, same_new hD4 _⟩
      · rintro t x H5 H6 ht ⟨d1, d2⟩ ⟨rfl, hx⟩
        have hx : (l.map fun k => V.int (k : Nat))[t]? = some x := hx
        rw [List.getElem?_map] at hx
        obtain ⟨k, hk, rfl⟩ := Option.map_eq_some_iff.mp hx
        have hkl2 := hkl k (List.mem_of_getElem? hk)
        have htl : t < l.length := (List.getElem?_eq_some_iff.mp hk).1
        obtain ⟨x, hx2, hat⟩ := paired_at' hRp (List.getElem?_eq_getElem hkl2)
        refine ⟨rfl, ?_⟩
        refine ⟨_, rfl, _, rfl, R, _, (k : Int), .ref x, rfl, rfl, .inl (.inl (d2 _ _ hRt)), atI_nat (by rw [List.getElem?_map, hx2]; rfl), _, d1, ?_, ?_, ?_⟩
        · rw [List.length_map, List.length_map, List.length_take]
          exact small1000 (by omega)
        · rw [upd_same, List.take_add_one, hk]
          simp only [Option.toList_some, List.map_append, List.map_cons, List.map_nil, List.getD_eq_getElem?_getD, hx2, Option.getD_some]
        · exact fun b u qb => by
            rw [upd_ne (ne_of_none qb hD4)]
            exact d2 b u qb
      rintro H5 ⟨d1, d2⟩
      have nl : (natsV l).length = l.length := by unfold natsV; rw [List.length_map]
      rw [nl, List.take_length] at d1
      refine ⟨D4, _, rfl, .inl ⟨.inl (.inl d1), fun M hM => ?_⟩⟩
      have s6 := same_new hM (.tup ((l.map fun k => rts.getD k 0).map V.ref))
      have s36 := d2.trans s6
      have h6 := h3.same s36
      have hM6 : RulesAt (upd H5 M (.tup ((l.map fun k => rts.getD k 0).map V.ref))) M (pickR rs l) := ⟨_, upd_same, paired_mono (fun t ρ q => s36 _ _ q) (pick_paired hRp hkl)⟩
      generalize upd H5 M (.tup ((l.map fun k => rts.getD k 0).map V.ref)) = H6 at h6 hM6 ⊢
      simp only [List.set_cons_succ, List.set_cons_zero]
      have hMo := pick_ok hkl ho
      have pl : (pickR rs l).length = l.length := by unfold pickR; rw [List.length_map]
      have hbl2 : blamM (pickR rs l) ss ss.length = [] := blam_nil.mpr hv.2.1
      refine ⟨_, rfl, _, rfl, _, rfl, L, M, S, pickR rs l, ss, rfl, oL, hM6, hMo, by omega, h6.hS, hsm.ok, by omega, fun D7 H7 s7 hD7 e7 => ?_⟩
      rw [hbl2] at e7
      refine ⟨(by show 0 ≤ sizeLine; decide), fun E8 hE8 => ?_⟩
      have s8 := same_new hE8 (.lst [])
      have e8 : (upd H7 E8 (.lst [])) E8 = some (.lst []) := upd_same
      have e78 := s8 _ _ e7
      have h8 := h6.same (s7.trans s8)
      have hM8 := hM6.kt (.of (s7.trans s8))
      generalize upd H7 E8 (.lst []) = H8 at e8 e78 h8 hM8 ⊢
      refine ⟨_, _, .lst (.inl (.inl e78)) .nil, .lst (.inl (.inl e8)) .nil, rfl, rfl, _, rfl, ?_⟩
      rw [show PyData.eqv (.list []) (.list []) = true from rfl]
      refine iteF ?_
      refine ⟨_, rfl, _, rfl, _, rfl, L, M, S, pickR rs l, ss, rfl, oL, hM8, hMo, by omega, h8.hS, hsm.ok, by omega, h8.Tb, fun o2 v2' H9' e9 T9 hv2 hat2 => ?_⟩
      have eo := least_again hv hv2
      subst eo
      obtain ⟨N2, rfl, nN2, hN2⟩ := hat2
      have h9 := h8.extN e9 T9
      have hM9 := hM8.kt (.extN e9)
      obtain ⟨mts, hMt, hMp⟩ := id hM9
      have lm : (mts.map V.ref).length = l.length := by rw [List.length_map, paired_len hMp, pl]
      refine ⟨_, rfl, _, _, rfl, .inr ⟨_, .inl (.inl hMt), rfl⟩, _, rfl, RgOk.of_le (by omega) (by rw [lm]; omega) (by omega) (by omega), fun F1 hF1 => ?_⟩
      rw [lm]
      have erg : rgV 0 ((l.length : Nat) : Int) = natsV (List.range l.length) := by
        unfold rgV natsV
        rw [show (((l.length : Nat) : Int) - 0).toNat = l.length by omega]
        exact List.map_congr_left fun k _ => by rw [Int.zero_add]
      rw [erg]
      have s10 := same_new hF1 (.lst (natsV (List.range l.length)))
      have e10 : (upd H9' F1 (.lst (natsV (List.range l.length)))) F1 = some (.lst (natsV (List.range l.length))) := upd_same
      have hN10 := s10 _ _ hN2
      have h10' := h9.same s10
      have hM10 := hM9.kt (.of s10)
      generalize upd H9' F1 (.lst (natsV (List.range l.length))) = H10 at e10 hN10 h10' hM10 ⊢
      obtain ⟨_, _, ev⟩ := ints_lay (List.range l.length)
      refine ⟨_, _, .lst (.inl (.inl hN10)) (dp_ints _), .lst (.inl (.inl e10)) (dp_ints _), ints_shaped _, ints_shaped _, _, rfl, ?_⟩
      rw [show PyData.eqv (.list ((List.range l.length).map iD)) (.list ((List.range l.length).map iD)) = true from ev]
      refine iteF ?_
      refine q7 _ r R S M L rs ss l _ _ _ _ _ _ _ _ H10 oL ho h10 h10' hsm hv hM10 fun v6 H11 h11 => ?_
      -- more samples
      obtain ⟨ts, hSt, hSp⟩ := id h11.hS
      refine ⟨_, rfl, _, rfl, _, rfl, S, _, rfl, .inl (.inl hSt), fun p hp => ⟨p, rfl, ⟨_, .inl (.inl upd_same)⟩, fun D12 hD12 => ?_⟩⟩
      rw [cut1] at hD12 ⊢
      have s12 := same_new hp (.lst ((ts.take 1).map V.ref))
      have h12 := h11.same s12
      have hp12 : (upd H11 p (.lst ((ts.take 1).map V.ref))) p = some (.lst ((ts.take 1).map V.ref)) := upd_same
      have hSp12 := paired_takeF 1 (paired_mono (fun t (e : Exc) q => s12 _ _ q) hSp)
      generalize upd H11 p (.lst ((ts.take 1).map V.ref)) = H12 at hD12 s12 h12 hp12 hSp12 ⊢
      refine lc_it (walk_list (xs := (ts.take 1).map V.ref)) (fun i H' => (∃ us : List Addr, H' D12 = some (.lst (us.map V.ref)) ∧ us.length ≤ i ∧ Paired (fun t (e : Exc) => H' t = some (.tup [.str (T e.1), .str (T e.2)])) us (((ss.take 1).take i).map zed)) ∧ Same H12 H') ?_ (fun i H' _ h => .inl (.inl (h.2 _ _ hp12))) ?_ ?_
      · exact ⟨⟨[], upd_same, Nat.le_refl _, .nil⟩, same_new hD12 _⟩
      · rintro i x H' H'' hi ⟨⟨us, u1, u3, u2⟩, d2⟩ ⟨rfl, hx⟩
        have hx : ((ts.take 1).map V.ref)[i]? = some x := hx
        rw [List.getElem?_map] at hx
        obtain ⟨t, ht, rfl⟩ := Option.map_eq_some_iff.mp hx
        obtain ⟨e, he, hat⟩ := paired_at hSp12 ht
        have hi1 : i < 1 := by
          have := (List.getElem?_eq_some_iff.mp ht).1
          rw [List.length_take] at this
          omega
        have hem : e ∈ ss := List.mem_of_mem_take (List.mem_of_getElem? he)
        have s35 := hsm.s35 e hem
        refine ⟨t, _, rfl, .inl (.inl (d2 _ _ hat)), rfl, _, _, rfl, _, _, rfl, rfl, ?_⟩
        refine ⟨rfl, ?_⟩
        refine ⟨_, rfl, _, rfl, _, _, rfl, rfl, (by show (T e.2).length + (T [90]).length ≤ sizeLine; rw [T_len, T_len]; exact small (by simp; omega)), (by show 2 ≤ sizeLine; decide), fun u hu => ?_⟩
        rw [show T e.2 ++ Str.ofString "Z" = T (e.2 ++ [90]) from T_app e.2 [90]]
        have su := same_new hu (.tup [.str (T e.1), .str (T (e.2 ++ [90]))])
        refine ⟨_, su _ _ u1, by rw [List.length_map]; exact small1000 (by omega), ⟨us ++ [u], by rw [upd_same, List.map_append]; rfl, by simp; omega, ?_⟩, fun b o hb => by rw [upd_ne (ne_of_none hb hD12)]; exact su _ _ (d2 _ _ hb)⟩
        have nud : u ≠ D12 := fun z => by rw [z, u1] at hu; cases hu
        rw [List.take_add_one, he, List.map_append]
        refine paired_app (paired_mono (fun t' e' q => ?_) u2) (.cons ?_ .nil)
        · rw [upd_ne (ne_of q u1 (by intro z; cases z))]
          exact su _ _ q
        · rw [upd_ne nud]
          exact upd_same
      rintro H13 ⟨⟨us, u1, u3, u2⟩, d2⟩
      have lt1 : ((ts.take 1).map V.ref).length = (ss.take 1).length := by rw [List.length_map, List.length_take, List.length_take, paired_len hSp]
      rw [lt1, List.take_length] at u2
      have s1213 := s12.trans d2
      have h13 := h11.same s1213
      have ul : us.length ≤ 1 := by
        have := paired_len u2
        rw [List.length_map, List.length_take] at this
        omega
      refine ⟨S, D12, _, _, rfl, rfl, s1213 _ _ hSt, u1, by rw [List.length_map, List.length_map, paired_len hSp]; exact Nat.le_of_lt (small1000 (by omega)), fun O hO => ?_⟩
      have s14 := same_new hO (.lst (ts.map V.ref ++ us.map V.ref))
      have h14 := h13.same s14
      have hO14 : SampsAt (upd H13 O (.lst (ts.map V.ref ++ us.map V.ref))) O (ss ++ (ss.take 1).map zed) := ⟨ts ++ us, by rw [upd_same, List.map_append], paired_app (paired_mono (fun t e q => (s1213.trans s14) _ _ q) hSp) (paired_mono (fun t e q => s14 _ _ q) u2)⟩
      generalize upd H13 O (.lst (ts.map V.ref ++ us.map V.ref)) = H14 at h14 hO14 ⊢
      simp only [List.set_cons_succ, List.set_cons_zero]
      exact q9 _ r R S O L rs ss _ _ _ _ _ _ _ _ H14 oL ho h10 h14 hsm hO14 fun H15 h15 => qn _ _ _ _ _ _ _ _ _ _ _ H15 h15.Rw h15.Tb
    -- the turns
    refine ⟨_, pss_cons (ps_set (i := 1) scLaw.nd rfl (.inl rfl) (pe_call GRo hr1 (by rfl) mRo kRo bRo .nil pass0 (pa_cons (pv 0) pa_nil)))
      (pss_cons (ps_for PassesOwn.never rfl (pi_range1 (by rfl) B.rng (pa_cons pe_int pa_nil)) (pg_name (i := 2) scLaw.nd rfl (.inl rfl)) (pss_cons (ps_set (i := 3) scLaw.nd rfl (.inr rfl) (pe_call GLe hr2 (by rfl) mLe kLe bLe .nil pass0 (pa_cons (pv 1) pa_nil))) (pss_cons (ps_asg (pe_tup (pa_cons (pe_call GRu hr4 (by rfl) mRu kRu bRu .nil pass0 (pa_cons (pv 1) (pa_cons (pv 3) (pa_cons pe_int pa_nil)))) (pa_cons (pe_lst pa_nil) pa_nil))) (pg_tup (by rfl) (pgs_cons (pg_name (i := 4) scLaw.nd rfl (.inr rfl)) (pgs_cons (pg_name (i := 5) scLaw.nd rfl (.inl rfl)) pgs_nil)))) (pss_cons ps2 psR))))
      (pss_one (ps_ret pe_bl))), ?_⟩
    refine ⟨_, rfl, a, ns, rfl, hSc, hle, fun r H1 hr0 s1 R1 => ?_⟩
    have T0 : LamX.Tabs [(Pt, qLam), (PA, qAre)] H := fun p hp => by
      rcases List.mem_cons.mp hp with rfl | hp
      · exact LamX.TabS.nil hPt
      · rw [List.mem_singleton.mp hp]
        exact LamX.TabS.nil hPA
    have T1 := T0.ext s1
    refine ⟨4, rfl, by decide, by decide, for_it (walk_range) (fun i σ H2 => RowAt K H2 r a ns ∧ LamX.Tabs [(Pt, qLam), (PA, qAre)] H2 ∧ ∃ v2 v3 v4 v5 v6 v7 v8 v9 v10 v11 v12 v13, σ = [some (.ref a), some (.ref r), v2, v3, v4, v5, v6, v7, v8, v9, v10, v11, v12, v13])
      ⟨R1, T1, _, _, _, _, _, _, _, _, _, _, _, _, rfl⟩ (fun _ _ _ _ _ => trivial) ?_ ?_⟩
    · rintro i x σ H2 H2' hi ⟨R2, T2, v2, v3, v4, v5, v6, v7, v8, v9, v10, v11, v12, v13, rfl⟩ ⟨rfl, rfl⟩
      refine ⟨_, rfl, r, a, ns, rfl, R2, fun L H3 hL s3 R3 => ?_⟩
      have oL := lets_ok hL
      have l2 := oL.l2
      have l4 := oL.l4
      have T3 := tabs_stp T2 R2.in s3
      refine ⟨_, rfl, _, rfl, r, a, ns, L, 5, rfl, R3, by omega, by omega, by decide, fun rs R H4 ho hlen hR s4 R4 => ?_⟩
      have T4 := tabs_stp T3 R3.in s4
      refine ⟨(by show 0 ≤ sizeLine; decide), fun S hSn => ⟨(by show 2 ≤ sizeLine; decide), fun p hp => ?_⟩⟩
      have sS := same_new hSn (.lst [])
      have sp := same_new hp (.tup [.ref R, .ref S])
      have sSp := sS.trans sp
      refine ⟨p, _, rfl, .inl (.inl upd_same), rfl, _, _, rfl, _, _, rfl, rfl, ?_⟩
      have h5 : S8 K [(Pt, qLam), (PA, qAre)] r a R S ns rs [] (upd (upd H4 S (.lst [])) p (.tup [.ref R, .ref S])) := ⟨R4.stp sSp, T4.ext sSp, hR.kt (.of sSp), ⟨[], sp _ _ upd_same, .nil⟩, fun z => R4.nw hSn z.symm⟩
      generalize upd (upd H4 S (.lst [])) p (.tup [.ref R, .ref S]) = H5 at h5 ⊢
      simp only [List.set_cons_succ, List.set_cons_zero]
      refine q2 _ r R S L rs _ _ _ _ _ _ _ _ _ H5 oL ho (by omega) h5 fun S ss v6 v7 v8 H6 h6 hsm => ?_
      exact qR _ r R S L rs ss _ _ _ _ _ _ _ _ _ H6 oL ho (by omega) h6 hsm fun v3 v4 v5 v6 v7 v8 v9 v10 v11 v12 v13 H7 R7 T7 => ⟨R7, T7, _, _, _, _, _, _, _, _, _, _, _, _, rfl⟩
    · rintro σ H2 ⟨R2, T2, v2, v3, v4, v5, v6, v7, v8, v9, v10, v11, v12, v13, rfl⟩
      exact q _
end
end Say
namespace Say
open PySem PySem.Spec PyProof.Rows L2
/-- a def as the top has left it -/
structure Std (K : PySem.W.Frag) (x : Str) (st : Stmt) (f : Addr) : Prop where
  ns : PySem.W.nsIn K mainGlobals x = some (some (.ref f))
  fn : ∃ fd, Fun K x x st f fd ∧ ∃ kV dc pm an cd ct, fd = PySem.W.fnOf x x (defArgs st) (defBody st) (defScope st) .none kV dc pm an cd ct
theorem std_mk {K : PySem.W.Frag} {x : Str} {st : Stmt} {f : Addr} {oc : Value} {od an : Option Addr} {osl : Array (Option Value)} {kV dc pm cd ct : Value} (a : PySem.W.nsIn K mainGlobals x = some (some (.ref f))) (l : K.lookup f = some ⟨oc, od, .func (PySem.W.fnOf x x (defArgs st) (defBody st) (defScope st) .none kV dc pm an cd ct), osl⟩) (c : PySem.W.codeIn K cd x = true) (k : PySem.W.keepIn K (.ref f) = true) : Std K x st f :=
  ⟨a, _, fun_mk l c k, kV, dc, pm, an, cd, ct, rfl⟩
theorem all_ok {l : PySem.W.OpenLaw} {w : World} {K : PySem.W.Frag} {h : Heap} {mg : Str → Option Value} {fa f39 f40 f35 f34 f37 f38 f36 f30 f33 f31 f32 f29 f44 f45 f46 f62 f50 f51 f47 f48 f49 f61 f59 f57 f56 f55 f54 f64 f65 f66 f67 f68 f69 f70 f71 f72 f58 xSayError xBadBook xBadWord xBadSounds xBadCount xUnsaid xNoLetter xNoException xOtherLetters xBadSamples xBadDeed xHalted xBadText fI cdI ccI N_ Pt cL Pth0_ cLh0_ : Addr} {t_small t_caps t_edge t_mrul t_lexc t_lrs t_lso t_imost_exceptions t_ilongest_word t_iown t_isounds t_imost_samples : Tok} {tfI : Tok} {nm q flI : Str} {bs sub : List Value} {sn : List Str} {ab : Bool} {col : Option Bool} {dd odI anI cldI cddI : Option Addr} {m0 m1 m2 m3 m5 : Option Value} {oI dcI pmI ctI clI cclI : Value} {slI cslI ccsI : Array (Option Value)} {vsI : Array Value} {lt18 lt7 lt10 : Tok} {li7 li10 : Int} {lb9 : Bool} {lf18 : Str} {cddL odL anL : Option Addr} {oL kVL dcL pmL ctL : Value} {cslL slL : Array (Option Value)} {vsL : Array Value} {lt18h0_ lt7h0_ lt10h0_ : Tok} {li7h0_ li10h0_ : Int} {lb9h0_ : Bool} {lf18h0_ : Str} {cddLh0_ odLh0_ anLh0_ : Option Addr} {oLh0_ kVLh0_ dcLh0_ pmLh0_ ctLh0_ : Value} {cslLh0_ slLh0_ : Array (Option Value)} {vsLh0_ : Array Value}
    (X : K.In h) (G : h.Ns mainGlobals mg) (hfa : mg "law" = some (.ref fa)) (OT : LamX.OwnTab K fa h) (OT0 : ∀ g : Addr, mg "are_said" = some (.ref g) → LamX.OwnTab K g h)
    (S39 : Std K "is_text" (topS 39) f39)
    (S40 : Std K "is_rising" (topS 40) f40)
    (S35 : Std K "is_beside" (topS 35) f35)
    (S34 : Std K "is_rule" (topS 34) f34)
    (S37 : Std K "is_excepted" (topS 37) f37)
    (S38 : Std K "is_sounds" (topS 38) f38)
    (S36 : Std K "is_exception" (topS 36) f36)
    (S30 : Std K "check_letters" (topS 30) f30)
    (S33 : Std K "check_word" (topS 33) f33)
    (S31 : Std K "check_rules" (topS 31) f31)
    (S32 : Std K "check_exceptions" (topS 32) f32)
    (S29 : Std K "checked_book" (topS 29) f29)
    (S44 : Std K "fits" (topS 44) f44)
    (S45 : Std K "first_fit" (topS 45) f45)
    (S46 : Std K "steps_of" (topS 46) f46)
    (S62 : Std K "walked" (topS 62) f62)
    (S50 : Std K "numbers_of" (topS 50) f50)
    (S51 : Std K "sounds_of" (topS 51) f51)
    (S47 : Std K "ending" (topS 47) f47)
    (S48 : Std K "ending_sounds" (topS 48) f48)
    (S49 : Std K "word_sounds" (topS 49) f49)
    (S61 : Std K "said" (topS 61) f61)
    (S59 : Std K "is_said" (topS 59) f59)
    (S57 : Std K "check_samples" (topS 57) f57)
    (S56 : Std K "check_all" (topS 56) f56)
    (S55 : Std K "blamed" (topS 55) f55)
    (S54 : Std K "least" (topS 54) f54)
    (S64 : Std K "_law_row" (topS 64) f64)
    (S65 : Std K "_law_taken" (topS 65) f65)
    (S66 : Std K "_law_letters" (topS 66) f66)
    (S67 : Std K "_law_side" (topS 67) f67)
    (S68 : Std K "_law_text" (topS 68) f68)
    (S69 : Std K "_law_rule" (topS 69) f69)
    (S70 : Std K "_law_rules" (topS 70) f70)
    (S71 : Std K "_law_word" (topS 71) f71)
    (a_law : PySem.W.nsIn K mainGlobals "law" = some (some (.ref f72)))
    (l_law : K.lookup f72 = some ⟨oL, odL, .func (PySem.W.fnOf "law" "law" (defArgs (topS 72)) (defBody (topS 72)) (defScope (topS 72)) .none kVL dcL pmL anL (.ref cL) ctL), slL⟩)
    (c_law : PySem.W.codeIn K (.ref cL) "law" = true)
    (k_law : PySem.W.keepIn K (.ref f72) = true)
    (z_len : PySem.W.nsIn K mainGlobals "len" = some none)
    (z_range : PySem.W.nsIn K mainGlobals "range" = some none)
    (z_tuple : PySem.W.nsIn K mainGlobals "tuple" = some none)
    (z_list : PySem.W.nsIn K mainGlobals "list" = some none)
    (z_isinstance : PySem.W.nsIn K mainGlobals "isinstance" = some none)
    (z_str : PySem.W.nsIn K mainGlobals "str" = some none)
    (z_all : PySem.W.nsIn K mainGlobals "all" = some none)
    (z_enumerate : PySem.W.nsIn K mainGlobals "enumerate" = some none)
    (z_sorted : PySem.W.nsIn K mainGlobals "sorted" = some none)
    (z_bool : PySem.W.nsIn K mainGlobals "bool" = some none)
    (z_dict : PySem.W.nsIn K mainGlobals "dict" = some none)
    (z_int : PySem.W.nsIn K mainGlobals "int" = some none)
    (c_small : PySem.W.nsIn K mainGlobals "SMALL" = some (some (.str "abcdefghijklmnopqrstuvwxyz" t_small)))
    (c_caps : PySem.W.nsIn K mainGlobals "CAPITALS" = some (some (.str "ABCDEFGHIJKLMNOPQRSTUVWXYZ" t_caps)))
    (c_edge : PySem.W.nsIn K mainGlobals "EDGE" = some (some (.str "#" t_edge)))
    (c_mrul : PySem.W.nsIn K mainGlobals "MOST_RULES" = some (some (.int 12 t_mrul)))
    (c_lexc : PySem.W.nsIn K mainGlobals "LONGEST_EXCEPTION" = some (some (.int 8 t_lexc)))
    (c_lrs : PySem.W.nsIn K mainGlobals "LONGEST_RULE_SOUNDS" = some (some (.int 3 t_lrs)))
    (c_lso : PySem.W.nsIn K mainGlobals "LONGEST_SOUNDS" = some (some (.int 36 t_lso)))
    (c_imost_exceptions : PySem.W.nsIn K mainGlobals "MOST_EXCEPTIONS" = some (some (.int 8 t_imost_exceptions)))
    (c_ilongest_word : PySem.W.nsIn K mainGlobals "LONGEST_WORD" = some (some (.int 12 t_ilongest_word)))
    (c_iown : PySem.W.nsIn K mainGlobals "OWN" = some (some (.int 1 t_iown)))
    (c_isounds : PySem.W.nsIn K mainGlobals "SOUNDS" = some (some (.int 3 t_isounds)))
    (c_imost_samples : PySem.W.nsIn K mainGlobals "MOST_SAMPLES" = some (some (.int 12 t_imost_samples)))
    (z_super : PySem.W.nsIn K mainGlobals "super" = some none)
    (z_ValueError : PySem.W.nsIn K mainGlobals "ValueError" = some none)
    (gSayError : PySem.W.nsIn K mainGlobals "SayError" = some (some (.ref xSayError)))
    (gBadBook : PySem.W.nsIn K mainGlobals "BadBook" = some (some (.ref xBadBook)))
    (gBadWord : PySem.W.nsIn K mainGlobals "BadWord" = some (some (.ref xBadWord)))
    (gBadSounds : PySem.W.nsIn K mainGlobals "BadSounds" = some (some (.ref xBadSounds)))
    (gBadCount : PySem.W.nsIn K mainGlobals "BadCount" = some (some (.ref xBadCount)))
    (gUnsaid : PySem.W.nsIn K mainGlobals "Unsaid" = some (some (.ref xUnsaid)))
    (gNoLetter : PySem.W.nsIn K mainGlobals "NoLetter" = some (some (.ref xNoLetter)))
    (gNoException : PySem.W.nsIn K mainGlobals "NoException" = some (some (.ref xNoException)))
    (gOtherLetters : PySem.W.nsIn K mainGlobals "OtherLetters" = some (some (.ref xOtherLetters)))
    (gBadSamples : PySem.W.nsIn K mainGlobals "BadSamples" = some (some (.ref xBadSamples)))
    (gBadDeed : PySem.W.nsIn K mainGlobals "BadDeed" = some (some (.ref xBadDeed)))
    (gHalted : PySem.W.nsIn K mainGlobals "Halted" = some (some (.ref xHalted)))
    (gBadText : PySem.W.nsIn K mainGlobals "BadText" = some (some (.ref xBadText)))
    (eS1 : PySem.W.subIn K (.ref xSayError) (.type "BaseException") = some true)
    (eS2 : PySem.W.hasDictIn K xSayError = true)
    (eS3 : PySem.W.typeIn K (.ref xSayError) = some (.type "type"))
    (Unsaid_e4 : PySem.W.subIn K (.ref xUnsaid) (.ref xSayError) = some true)
    (Unsaid_kBadBook : PySem.W.kitOne K (.ref xUnsaid) (.ref xBadBook) = some false)
    (Unsaid_kBadWord : PySem.W.kitOne K (.ref xUnsaid) (.ref xBadWord) = some false)
    (Unsaid_kBadSounds : PySem.W.kitOne K (.ref xUnsaid) (.ref xBadSounds) = some false)
    (Unsaid_kBadCount : PySem.W.kitOne K (.ref xUnsaid) (.ref xBadCount) = some false)
    (Unsaid_kUnsaid : PySem.W.kitOne K (.ref xUnsaid) (.ref xUnsaid) = some true)
    (Unsaid_kNoLetter : PySem.W.kitOne K (.ref xUnsaid) (.ref xNoLetter) = some false)
    (Unsaid_kNoException : PySem.W.kitOne K (.ref xUnsaid) (.ref xNoException) = some false)
    (Unsaid_kOtherLetters : PySem.W.kitOne K (.ref xUnsaid) (.ref xOtherLetters) = some false)
    (Unsaid_kBadSamples : PySem.W.kitOne K (.ref xUnsaid) (.ref xBadSamples) = some false)
    (Unsaid_kBadDeed : PySem.W.kitOne K (.ref xUnsaid) (.ref xBadDeed) = some false)
    (Unsaid_kHalted : PySem.W.kitOne K (.ref xUnsaid) (.ref xHalted) = some false)
    (Unsaid_kBadText : PySem.W.kitOne K (.ref xUnsaid) (.ref xBadText) = some false)
    (Unsaid_kV : PySem.W.kitOne K (.ref xUnsaid) (.type "ValueError") = some true)
    (Unsaid_noP : PySem.W.findIn K (.ref xUnsaid) "place" = some none)
    (Unsaid_noN : PySem.W.findIn K (.ref xUnsaid) "number" = some none)
    (Unsaid_noA : PySem.W.findIn K (.ref xUnsaid) "part" = some none)
    (Unsaid_noD : PySem.W.findIn K (.ref xUnsaid) "done" = some none)
    (Unsaid_noR : PySem.W.findIn K (.ref xUnsaid) "row" = some none)
    (Unsaid_ga : PySem.W.findIn K (.ref xUnsaid) "__getattribute__" = some (some (.builtin "BaseException.__getattribute__")))
    (Unsaid_gg : PySem.W.findIn K (.ref xUnsaid) "__getattr__" = some none)
    (Unsaid_hd : PySem.W.hasDictIn K xUnsaid = true)
    (Unsaid_ex : PySem.W.subIn K (.ref xUnsaid) (.type "BaseException") = some true)
    (Unsaid_ha : PySem.W.findIn K (.ref xUnsaid) "__class__" = some (some (.builtin "object.__class__")))
    (Unsaid_hm : PySem.W.mroIn K xUnsaid (.type "object") = some true)
    (x_hn : PySem.W.specialIn K (.builtin "object.__class__") "__get__" = some (some (.builtin "getset_descriptor.__get__")))
    (x_ht : PySem.W.takesIn K (.builtin "object.__class__") = some true)
    (xU : K.lookup xUnsaid = some (excClassObj nm q xUnsaid N_ bs [.ref xSayError, .type "ValueError", .type "Exception", .type "BaseException", .type "object"] true sn sub ab col dd m0 m1 m2 m3 m5 "ValueError.__new__"))
    (u_sa : PySem.W.findIn K (.ref xUnsaid) "__setattr__" = some (some (.builtin "object.__setattr__")))
    (u_iC : PySem.W.findIn K (.ref xUnsaid) "__init__" = some (some (.ref fI)))
    (u_tC : PySem.W.typeIn K (.ref fI) = some (.type "function"))
    (u_kC : PySem.W.keepIn K (.ref xUnsaid) = true)
    (u_tyC : PySem.W.typeIn K (.ref xUnsaid) = some (.type "type"))
    (u_sup : PySem.W.ks_superIn K xUnsaid xUnsaid "__init__" = some (some (.builtin "ValueError.__init__")))
    (u_subV : PySem.W.subIn K (.ref xUnsaid) (.type "ValueError") = some true)
    (u_any : PySem.W.nsIn K cStatics "thirdparty.any" = some none)
    (u_main : (l.prog.main.scope.names.lookup ("super" : Str)).isSome = false)
    (u_fn : K.lookup fI = some ⟨oI, odI, .func (PySem.W.ksFn "__init__" "Unsaid.__init__" PySem.UnsX.iA PySem.UnsX.iB PySem.UnsX.iS .none .none dcI pmI anI (.ref cdI) ctI ccI), slI⟩)
    (u_cd : PySem.W.codeIn K (.ref cdI) "Unsaid.__init__" = true)
    (u_cell : K.lookup ccI = some ⟨clI, cldI, .cell (some (.ref xUnsaid)), cslI⟩)
    (u_code : K.lookup cdI = some ⟨cclI, cddI, .fields vsI, ccsI⟩)
    (u_vs : vsI[2]? = some (.str flI tfI))
    (u_file : ((l.prog.main.file : Str) == flI) = true)
    (l_code : K.lookup cL = some ⟨.type "code", cddL, .fields vsL, cslL⟩)
    (l_vs : vsL[11]? = some (.ref Pt))
    (l_v11 : vsL.getD 11 .none = .ref Pt)
    (l_v18 : vsL.getD 18 .none = .str lf18 lt18)
    (l_v7 : vsL.getD 7 .none = .int li7 lt7)
    (l_v9 : vsL.getD 9 .none = .bool lb9)
    (l_v10 : vsL.getD 10 .none = .int li10 lt10)
    (l_ne : cL ≠ Pt)
    (l_no : K.lookup Pt = none)
    (h0_a : PySem.W.nsIn K mainGlobals "are_said" = some (some (.ref f58)))
    (h0_l : K.lookup f58 = some ⟨oLh0_, odLh0_, .func (PySem.W.fnOf "are_said" "are_said" (defArgs (topS 58)) (defBody (topS 58)) (defScope (topS 58)) .none kVLh0_ dcLh0_ pmLh0_ anLh0_ (.ref cLh0_) ctLh0_), slLh0_⟩)
    (h0_c : PySem.W.codeIn K (.ref cLh0_) "are_said" = true)
    (h0_k : PySem.W.keepIn K (.ref f58) = true)
    (h0_code : K.lookup cLh0_ = some ⟨.type "code", cddLh0_, .fields vsLh0_, cslLh0_⟩)
    (h0_vs : vsLh0_[11]? = some (.ref Pth0_))
    (h0_v11 : vsLh0_.getD 11 .none = .ref Pth0_)
    (h0_v18 : vsLh0_.getD 18 .none = .str lf18h0_ lt18h0_)
    (h0_v7 : vsLh0_.getD 7 .none = .int li7h0_ lt7h0_)
    (h0_v9 : vsLh0_.getD 9 .none = .bool lb9h0_)
    (h0_v10 : vsLh0_.getD 10 .none = .int li10h0_ lt10h0_)
    (h0_ne : cLh0_ ≠ Pth0_)
    (h0_no : K.lookup Pth0_ = none)
    (h0_nP : Pt ≠ Pth0_)
    (gComb : PySem.W.nsIn K mainGlobals "combinations" = some (some (.type "itertools.combinations")))
    : LamX.LawAtS l w K CX0 11 63 "_law_script" mg fa h := by
  have e := hfa.symm.trans (PySem.W.mg_of X G a_law)
  cases e
  have B : Bn mg := ⟨PySem.W.mg_none_of X G z_len, PySem.W.mg_none_of X G z_range, PySem.W.mg_none_of X G z_tuple, PySem.W.mg_none_of X G z_list, PySem.W.mg_none_of X G z_isinstance, PySem.W.mg_none_of X G z_str, PySem.W.mg_none_of X G z_all, PySem.W.mg_none_of X G z_enumerate, PySem.W.mg_none_of X G z_sorted, PySem.W.mg_none_of X G z_bool⟩
  have C : Cn mg := ⟨⟨_, PySem.W.mg_of X G c_small⟩, ⟨_, PySem.W.mg_of X G c_caps⟩, ⟨_, PySem.W.mg_of X G c_edge⟩, ⟨_, PySem.W.mg_of X G c_mrul⟩, ⟨_, PySem.W.mg_of X G c_lexc⟩, ⟨_, PySem.W.mg_of X G c_lrs⟩, ⟨_, PySem.W.mg_of X G c_lso⟩⟩
  have KI_MOST_EXCEPTIONS : KI mg "MOST_EXCEPTIONS" 8 := ⟨_, PySem.W.mg_of X G c_imost_exceptions⟩
  have KI_LONGEST_WORD : KI mg "LONGEST_WORD" 12 := ⟨_, PySem.W.mg_of X G c_ilongest_word⟩
  have KI_OWN : KI mg "OWN" 1 := ⟨_, PySem.W.mg_of X G c_iown⟩
  have KI_SOUNDS : KI mg "SOUNDS" 3 := ⟨_, PySem.W.mg_of X G c_isounds⟩
  have KI_MOST_SAMPLES : KI mg "MOST_SAMPLES" 12 := ⟨_, PySem.W.mg_of X G c_imost_samples⟩
  have EC_Unsaid : ExcC K xUnsaid := ⟨Unsaid_ga, Unsaid_gg, Unsaid_ex, Unsaid_hd, Unsaid_ha, x_hn, x_ht, Unsaid_hm⟩
  have WC_Unsaid : WordC K mg xUnsaid 4 := { say := ⟨_, PySem.W.mg_of X G gSayError, PySem.W.exm_ref eS1 eS2 eS3 Unsaid_e4⟩, book := ⟨_, PySem.W.mg_of X G gBadBook, Unsaid_kBadBook⟩, word := ⟨_, PySem.W.mg_of X G gBadWord, Unsaid_kBadWord⟩, snds := ⟨_, PySem.W.mg_of X G gBadSounds, Unsaid_kBadSounds⟩, coun := ⟨_, PySem.W.mg_of X G gBadCount, Unsaid_kBadCount⟩, uns := ⟨_, PySem.W.mg_of X G gUnsaid, Unsaid_kUnsaid⟩, lett := ⟨_, PySem.W.mg_of X G gNoLetter, Unsaid_kNoLetter⟩, exce := ⟨_, PySem.W.mg_of X G gNoException, Unsaid_kNoException⟩, othe := ⟨_, PySem.W.mg_of X G gOtherLetters, Unsaid_kOtherLetters⟩, samp := ⟨_, PySem.W.mg_of X G gBadSamples, Unsaid_kBadSamples⟩, deed := ⟨_, PySem.W.mg_of X G gBadDeed, Unsaid_kBadDeed⟩, halt := ⟨_, PySem.W.mg_of X G gHalted, Unsaid_kHalted⟩, text := ⟨_, PySem.W.mg_of X G gBadText, Unsaid_kBadText⟩, val := PySem.W.mg_none_of X G z_ValueError, kv := Unsaid_kV, exc := EC_Unsaid, xf := ⟨Unsaid_ga, Unsaid_gg, Unsaid_ex, Unsaid_hd⟩, noP := Unsaid_noP, noN := Unsaid_noN, noA := Unsaid_noA, noD := Unsaid_noD, noR := Unsaid_noR }
  have U : PySem.UnsX.UnsTxt l.prog K mg xUnsaid fI := { gC := PySem.W.mg_of X G gUnsaid, sB := PySem.W.mg_none_of X G z_super, cls := ⟨_, _, _, _, _, _, _, _, _, _, _, _, _, _, _, xU, rfl⟩, sa := u_sa, noP := Unsaid_noP, iC := u_iC, tC := u_tC, kC := u_kC, exC := Unsaid_ex, tyC := u_tyC, sup := u_sup, subV := u_subV, any := u_any, main := u_main, fn := ⟨_, _, _, _, _, _, _, _, _, u_fn, u_cd, ⟨_, _, _, u_cell⟩, _, _, _, _, _, _, u_code, u_vs, u_file⟩ }
  have hPt : h.get? Pt = some { cls := .none, data := .fields #[] } := OT cL Pt _ _ _ _ _ _ l_law rfl rfl l_code l_vs
  have mh0_ : mg "are_said" = some (.ref f58) := PySem.W.mg_of X G h0_a
  have hPth0_ : h.get? Pth0_ = some { cls := .none, data := .fields #[] } := OT0 _ mh0_ cLh0_ Pth0_ _ _ _ _ _ _ h0_l rfl rfl h0_code h0_vs
  refine ⟨PySem.W.fnOf "law" "law" (defArgs sLaw) (defBody sLaw) (defScope sLaw) .none kVL dcL pmL anL (.ref cL) ctL, [(cL, Pt), (cLh0_, Pth0_)], spLawT2 K Pt Pth0_, fun p hp => ?_, fun p hp => ?_, fun p hp => ?_, fun s v => .of_eq rfl, fun H a ns hl _ hH hS => ?_, fun base _ _ TB => ?_⟩
  · skip
    rcases List.mem_cons.mp hp with rfl | hp
    · exact hPt
    rw [List.mem_singleton.mp hp]
    exact hPth0_
  · skip
    rcases List.mem_cons.mp hp with rfl | hp
    · exact l_no
    rw [List.mem_singleton.mp hp]
    exact h0_no
  · skip
    rcases List.mem_cons.mp hp with rfl | hp
    · exact ⟨_, _, _, _, _, _, _, _, _, X _ _ l_code, rfl, rfl, l_vs, l_v11, l_v18, l_v7, l_v9, l_v10, l_ne⟩
    rw [List.mem_singleton.mp hp]
    exact ⟨_, _, _, _, _, _, _, _, _, X _ _ h0_code, rfl, rfl, h0_vs, h0_v11, h0_v18, h0_v7, h0_v9, h0_v10, h0_ne⟩
  · exact ⟨a, ns, rfl, hS, hl, hH _ (List.mem_cons_self ..), hH _ (List.mem_cons_of_mem _ (List.mem_cons_self ..)), fun _ => rfl⟩
  have TBh0_ := TB _ (List.mem_cons_of_mem _ (List.mem_cons_self ..))
  have Fh0_ := fun_mk h0_l h0_c h0_k
  have bh0_ := Fh0_.binds (ps := ["rules", "samples"]) fun _ _ _ _ _ _ us hl => match us, hl with | [_, _], _ => rfl
  have TBl := TB _ (List.mem_cons_self ..)
  obtain ⟨d39, F39, _⟩ := S39.fn
  have m39 := PySem.W.mg_of X G S39.ns
  have b39 := F39.binds (ps := ["text", "signs", "least", "most"]) fun _ _ _ _ _ _ us hl => match us, hl with | [_, _, _, _], _ => rfl
  have D_is_text : Df l.prog w K mg base "is_text" ["text", "signs", "least", "most"] 1 spIsText := ⟨_, _, ok_isText F39 B, F39.kp, b39, m39⟩
  obtain ⟨d40, F40, _⟩ := S40.fn
  have m40 := PySem.W.mg_of X G S40.ns
  have b40 := F40.binds (ps := ["text"]) fun _ _ _ _ _ _ us hl => match us, hl with | [_], _ => rfl
  have D_is_rising : Df l.prog w K mg base "is_rising" ["text"] 1 spRise := ⟨_, _, ok_rise F40 B, F40.kp, b40, m40⟩
  obtain ⟨d35, F35, _⟩ := S35.fn
  have m35 := PySem.W.mg_of X G S35.ns
  have b35 := F35.binds (ps := ["letters", "signs"]) fun _ _ _ _ _ _ us hl => match us, hl with | [_, _], _ => rfl
  have D_is_beside : Df l.prog w K mg base "is_beside" ["letters", "signs"] 2 spBeside := ⟨_, _, ok_beside F35 B C D_is_text D_is_rising, F35.kp, b35, m35⟩
  obtain ⟨d34, F34, _⟩ := S34.fn
  have m34 := PySem.W.mg_of X G S34.ns
  have b34 := F34.binds (ps := ["letters", "rule"]) fun _ _ _ _ _ _ us hl => match us, hl with | [_, _], _ => rfl
  have D_is_rule : Df l.prog w K mg base "is_rule" ["letters", "rule"] 3 spIsRule := ⟨_, _, ok_isRule F34 B C D_is_text D_is_beside, F34.kp, b34, m34⟩
  obtain ⟨d37, F37, _⟩ := S37.fn
  have m37 := PySem.W.mg_of X G S37.ns
  have b37 := F37.binds (ps := ["letters", "word"]) fun _ _ _ _ _ _ us hl => match us, hl with | [_, _], _ => rfl
  have D_is_excepted : Df l.prog w K mg base "is_excepted" ["letters", "word"] 2 spExcd := ⟨_, _, ok_excd F37 C D_is_text, F37.kp, b37, m37⟩
  obtain ⟨d38, F38, _⟩ := S38.fn
  have m38 := PySem.W.mg_of X G S38.ns
  have b38 := F38.binds (ps := ["sounds"]) fun _ _ _ _ _ _ us hl => match us, hl with | [_], _ => rfl
  have D_is_sounds : Df l.prog w K mg base "is_sounds" ["sounds"] 2 spIsSo := ⟨_, _, ok_isSo F38 C D_is_text, F38.kp, b38, m38⟩
  obtain ⟨d36, F36, _⟩ := S36.fn
  have m36 := PySem.W.mg_of X G S36.ns
  have b36 := F36.binds (ps := ["letters", "pair"]) fun _ _ _ _ _ _ us hl => match us, hl with | [_, _], _ => rfl
  have D_is_exception : Df l.prog w K mg base "is_exception" ["letters", "pair"] 3 spIsExc := ⟨_, _, ok_isExc F36 B D_is_excepted D_is_sounds, F36.kp, b36, m36⟩
  obtain ⟨d30, F30, _⟩ := S30.fn
  have m30 := PySem.W.mg_of X G S30.ns
  have b30 := F30.binds (ps := ["letters"]) fun _ _ _ _ _ _ us hl => match us, hl with | [_], _ => rfl
  have D_check_letters : Df l.prog w K mg base "check_letters" ["letters"] 2 spChL := ⟨_, _, ok_chL F30 C D_is_text D_is_rising, F30.kp, b30, m30⟩
  obtain ⟨d33, F33, _⟩ := S33.fn
  have m33 := PySem.W.mg_of X G S33.ns
  have b33 := F33.binds (ps := ["letters", "word"]) fun _ _ _ _ _ _ us hl => match us, hl with | [_, _], _ => rfl
  have D_check_word : Df l.prog w K mg base "check_word" ["letters", "word"] 2 spChW := ⟨_, _, ok_chW F33 KI_LONGEST_WORD D_is_text, F33.kp, b33, m33⟩
  obtain ⟨d31, F31, _⟩ := S31.fn
  have m31 := PySem.W.mg_of X G S31.ns
  have b31 := F31.binds (ps := ["letters", "rules"]) fun _ _ _ _ _ _ us hl => match us, hl with | [_, _], _ => rfl
  have D_check_rules : Df l.prog w K mg base "check_rules" ["letters", "rules"] 4 spChR := ⟨_, _, ok_chR F31 B C D_is_rule, F31.kp, b31, m31⟩
  obtain ⟨d32, F32, _⟩ := S32.fn
  have m32 := PySem.W.mg_of X G S32.ns
  have b32 := F32.binds (ps := ["letters", "exceptions"]) fun _ _ _ _ _ _ us hl => match us, hl with | [_, _], _ => rfl
  have D_check_exceptions : Df l.prog w K mg base "check_exceptions" ["letters", "exceptions"] 4 spChE := ⟨_, _, ok_chE F32 B KI_MOST_EXCEPTIONS D_is_exception, F32.kp, b32, m32⟩
  obtain ⟨d29, F29, _⟩ := S29.fn
  have m29 := PySem.W.mg_of X G S29.ns
  have b29 := F29.binds (ps := ["book"]) fun _ _ _ _ _ _ us hl => match us, hl with | [_], _ => rfl
  have D_checked_book : Df l.prog w K mg base "checked_book" ["book"] 5 spCh := ⟨_, _, ok_ch F29 B D_check_letters D_check_rules D_check_exceptions, F29.kp, b29, m29⟩
  obtain ⟨d44, F44, _⟩ := S44.fn
  have m44 := PySem.W.mg_of X G S44.ns
  have b44 := F44.binds (ps := ["rule", "signs", "at"]) fun _ _ _ _ _ _ us hl => match us, hl with | [_, _, _], _ => rfl
  have D_fits : Df l.prog w K mg base "fits" ["rule", "signs", "at"] 1 spFits := ⟨_, _, ok_fits F44 B, F44.kp, b44, m44⟩
  obtain ⟨d45, F45, _⟩ := S45.fn
  have m45 := PySem.W.mg_of X G S45.ns
  have b45 := F45.binds (ps := ["rules", "signs", "at"]) fun _ _ _ _ _ _ us hl => match us, hl with | [_, _, _], _ => rfl
  have D_first_fit : Df l.prog w K mg base "first_fit" ["rules", "signs", "at"] 2 spFF := ⟨_, _, ok_FF F45 B D_fits, F45.kp, b45, m45⟩
  obtain ⟨d46, F46, _⟩ := S46.fn
  have m46 := PySem.W.mg_of X G S46.ns
  have b46 := F46.binds (ps := ["rules", "tail"]) fun _ _ _ _ _ _ us hl => match us, hl with | [_, _], _ => rfl
  have D_steps_of : Df l.prog w K mg base "steps_of" ["rules", "tail"] 3 spSt := ⟨_, _, ok_St F46 B C KI_OWN D_first_fit, F46.kp, b46, m46⟩
  obtain ⟨d62, F62, _⟩ := S62.fn
  have m62 := PySem.W.mg_of X G S62.ns
  have b62 := F62.binds (ps := ["rules", "word"]) fun _ _ _ _ _ _ us hl => match us, hl with | [_, _], _ => rfl
  have G_walked := ok_wdR (base := base) (w := w) (P := l.prog) F62 C U D_steps_of
  obtain ⟨d50, F50, _⟩ := S50.fn
  have m50 := PySem.W.mg_of X G S50.ns
  have b50 := F50.binds (ps := ["steps"]) fun _ _ _ _ _ _ us hl => match us, hl with | [_], _ => rfl
  have D_numbers_of : Df l.prog w K mg base "numbers_of" ["steps"] 1 spNum := ⟨_, _, ok_num F50, F50.kp, b50, m50⟩
  obtain ⟨d51, F51, _⟩ := S51.fn
  have m51 := PySem.W.mg_of X G S51.ns
  have b51 := F51.binds (ps := ["rules", "numbers"]) fun _ _ _ _ _ _ us hl => match us, hl with | [_, _], _ => rfl
  have D_sounds_of : Df l.prog w K mg base "sounds_of" ["rules", "numbers"] 1 spSou := ⟨_, _, ok_sou F51 KI_SOUNDS, F51.kp, b51, m51⟩
  obtain ⟨d47, F47, _⟩ := S47.fn
  have m47 := PySem.W.mg_of X G S47.ns
  have b47 := F47.binds (ps := ["rules", "tail"]) fun _ _ _ _ _ _ us hl => match us, hl with | [_, _], _ => rfl
  have D_ending : Df l.prog w K mg base "ending" ["rules", "tail"] 4 spEnd := ⟨_, _, ok_end F47 D_steps_of D_numbers_of, F47.kp, b47, m47⟩
  obtain ⟨d48, F48, _⟩ := S48.fn
  have m48 := PySem.W.mg_of X G S48.ns
  have b48 := F48.binds (ps := ["rules", "tail"]) fun _ _ _ _ _ _ us hl => match us, hl with | [_, _], _ => rfl
  have D_ending_sounds : Df l.prog w K mg base "ending_sounds" ["rules", "tail"] 5 spEnS := ⟨_, _, ok_enS F48 D_ending D_sounds_of, F48.kp, b48, m48⟩
  obtain ⟨d49, F49, _⟩ := S49.fn
  have m49 := PySem.W.mg_of X G S49.ns
  have b49 := F49.binds (ps := ["rules", "word"]) fun _ _ _ _ _ _ us hl => match us, hl with | [_, _], _ => rfl
  have D_word_sounds : Df l.prog w K mg base "word_sounds" ["rules", "word"] 6 spWS := ⟨_, _, ok_WS F49 C D_ending_sounds, F49.kp, b49, m49⟩
  obtain ⟨d61, F61, _⟩ := S61.fn
  have m61 := PySem.W.mg_of X G S61.ns
  have b61 := F61.binds (ps := ["book", "word"]) fun _ _ _ _ _ _ us hl => match us, hl with | [_, _], _ => rfl
  have G_said := ok_saidR F61 D_checked_book D_check_word G_walked F62.kp b62 m62 D_numbers_of D_sounds_of
  obtain ⟨d59, F59, _⟩ := S59.fn
  have m59 := PySem.W.mg_of X G S59.ns
  have b59 := F59.binds (ps := ["rules", "sample"]) fun _ _ _ _ _ _ us hl => match us, hl with | [_, _], _ => rfl
  have D_is_said : Df l.prog w K mg base "is_said" ["rules", "sample"] 7 spIsSaid := ⟨_, _, ok_isSaid F59 D_word_sounds, F59.kp, b59, m59⟩
  obtain ⟨d57, F57, _⟩ := S57.fn
  have m57 := PySem.W.mg_of X G S57.ns
  have b57 := F57.binds (ps := ["letters", "samples"]) fun _ _ _ _ _ _ us hl => match us, hl with | [_, _], _ => rfl
  have D_check_samples : Df l.prog w K mg base "check_samples" ["letters", "samples"] 4 spChS := ⟨_, _, ok_chS F57 B KI_MOST_SAMPLES D_is_exception, F57.kp, b57, m57⟩
  obtain ⟨d56, F56, _⟩ := S56.fn
  have m56 := PySem.W.mg_of X G S56.ns
  have b56 := F56.binds (ps := ["letters", "rules", "samples"]) fun _ _ _ _ _ _ us hl => match us, hl with | [_, _, _], _ => rfl
  have D_check_all : Df l.prog w K mg base "check_all" ["letters", "rules", "samples"] 5 spChA := ⟨_, _, ok_chA F56 D_check_letters D_check_rules D_check_samples, F56.kp, b56, m56⟩
  obtain ⟨d55, F55, _⟩ := S55.fn
  have m55 := PySem.W.mg_of X G S55.ns
  have b55 := F55.binds (ps := ["letters", "rules", "samples"]) fun _ _ _ _ _ _ us hl => match us, hl with | [_, _, _], _ => rfl
  have D_blamed : Df l.prog w K mg base "blamed" ["letters", "rules", "samples"] 8 spBl := ⟨_, _, ok_bl F55 B D_check_all D_is_said, F55.kp, b55, m55⟩
  obtain ⟨d54, F54, _⟩ := S54.fn
  have m54 := PySem.W.mg_of X G S54.ns
  obtain ⟨d64, F64, _⟩ := S64.fn
  have m64 := PySem.W.mg_of X G S64.ns
  have b64 := F64.binds (ps := ["_law_script"]) fun _ _ _ _ _ _ us hl => match us, hl with | [_], _ => rfl
  have D__law_row : Df l.prog w K mg base "_law_row" ["_law_script"] 1 (spRow K) := ⟨_, _, ok_row F64, F64.kp, b64, m64⟩
  obtain ⟨d65, F65, _⟩ := S65.fn
  have m65 := PySem.W.mg_of X G S65.ns
  have b65 := F65.binds (ps := ["_law_row_here", "_law_many"]) fun _ _ _ _ _ _ us hl => match us, hl with | [_, _], _ => rfl
  have D__law_taken : Df l.prog w K mg base "_law_taken" ["_law_row_here", "_law_many"] 1 (spTaken K) := ⟨_, _, ok_taken F65 B.len, F65.kp, b65, m65⟩
  obtain ⟨d66, F66, _⟩ := S66.fn
  have m66 := PySem.W.mg_of X G S66.ns
  have b66 := F66.binds (ps := ["_law_row_here"]) fun _ _ _ _ _ _ us hl => match us, hl with | [_], _ => rfl
  have D__law_letters : Df l.prog w K mg base "_law_letters" ["_law_row_here"] 2 (spLetters K) := ⟨_, _, ok_letters F66 D__law_taken, F66.kp, b66, m66⟩
  obtain ⟨d67, F67, _⟩ := S67.fn
  have m67 := PySem.W.mg_of X G S67.ns
  have b67 := F67.binds (ps := ["_law_row_here", "_law_letters_here"]) fun _ _ _ _ _ _ us hl => match us, hl with | [_, _], _ => rfl
  have D__law_side : Df l.prog w K mg base "_law_side" ["_law_row_here", "_law_letters_here"] 2 (spSide K) := ⟨_, _, ok_side F67 D__law_taken, F67.kp, b67, m67⟩
  obtain ⟨d68, F68, _⟩ := S68.fn
  have m68 := PySem.W.mg_of X G S68.ns
  have b68 := F68.binds (ps := ["_law_row_here", "_law_signs", "_law_fewest", "_law_many"]) fun _ _ _ _ _ _ us hl => match us, hl with | [_, _, _, _], _ => rfl
  have D__law_text : Df l.prog w K mg base "_law_text" ["_law_row_here", "_law_signs", "_law_fewest", "_law_many"] 2 (spText K) := ⟨_, _, ok_text F68 D__law_taken B.len B.rng, F68.kp, b68, m68⟩
  obtain ⟨d69, F69, _⟩ := S69.fn
  have m69 := PySem.W.mg_of X G S69.ns
  have b69 := F69.binds (ps := ["_law_row_here", "_law_letters_here"]) fun _ _ _ _ _ _ us hl => match us, hl with | [_, _], _ => rfl
  have D__law_rule : Df l.prog w K mg base "_law_rule" ["_law_row_here", "_law_letters_here"] 3 (spRule K) := ⟨_, _, ok_rule F69 D__law_taken D__law_side D__law_text, F69.kp, b69, m69⟩
  obtain ⟨d70, F70, _⟩ := S70.fn
  have m70 := PySem.W.mg_of X G S70.ns
  have b70 := F70.binds (ps := ["_law_row_here", "_law_letters_here", "_law_most"]) fun _ _ _ _ _ _ us hl => match us, hl with | [_, _, _], _ => rfl
  have D__law_rules : Df l.prog w K mg base "_law_rules" ["_law_row_here", "_law_letters_here", "_law_most"] 4 (spRules K) := ⟨_, _, ok_rules F70 D__law_taken D__law_rule B.rng B.tup, F70.kp, b70, m70⟩
  obtain ⟨d71, F71, _⟩ := S71.fn
  have m71 := PySem.W.mg_of X G S71.ns
  have D_FFL : Df l.prog w K mg base "first_fit" ["rules", "signs", "at"] 2 spFFL := ⟨_, _, ok_FFL F45 B D_fits, F45.kp, b45, m45⟩
  have D_StL : Df l.prog w K mg base "steps_of" ["rules", "tail"] 3 spStL := ⟨_, _, ok_StL F46 B C KI_OWN D_FFL, F46.kp, b46, m46⟩
  have D_SouL : Df l.prog w K mg base "sounds_of" ["rules", "numbers"] 1 spSouL := ⟨_, _, ok_souL (k := 0) F51 KI_SOUNDS, F51.kp, b51, m51⟩
  have D_EndL : Df l.prog w K mg base "ending" ["rules", "tail"] 4 spEndL := ⟨_, _, ok_endL F47 D_StL D_numbers_of, F47.kp, b47, m47⟩
  have D_EnSL : Df l.prog w K mg base "ending_sounds" ["rules", "tail"] 5 spEnSL := ⟨_, _, ok_enSL F48 D_EndL D_SouL, F48.kp, b48, m48⟩
  have D_WSL : Df l.prog w K mg base "word_sounds" ["rules", "word"] 6 spWSL := ⟨_, _, ok_WSL F49 C D_EnSL, F49.kp, b49, m49⟩
  have D_IsL : Df l.prog w K mg base "is_said" ["rules", "sample"] 7 spIsSaidL := ⟨_, _, ok_isSaidL F59 D_WSL, F59.kp, b59, m59⟩
  have D_are : Df l.prog w K mg base "are_said" ["rules", "samples"] 9 (spAre [(Pt, qLam), (Pth0_, qAre)]) := ⟨_, _, ok_are h0_l h0_c TBh0_ (by simp) (fun p hp e => by
    rcases List.mem_cons.mp hp with rfl | hp
    · exact absurd e h0_nP
    · rw [List.mem_singleton.mp hp]) B D_IsL, Fh0_.kp, bh0_, mh0_⟩
  have b54 := F54.binds (ps := ["letters", "rules", "samples"]) fun _ _ _ _ _ _ us hl => match us, hl with | [_, _, _], _ => rfl
  have D_lea : Df l.prog w K mg base "least" ["letters", "rules", "samples"] 10 (spLe [(Pt, qLam), (Pth0_, qAre)]) := ⟨_, _, ok_le F54 B (PySem.W.mg_of X G gComb) D_check_all D_are, F54.kp, b54, m54⟩
  exact ok_law l_law c_law TBl h0_nP B WC_Unsaid (PySem.W.mg_none_of X G z_int) F71 m71 (G_said.mono (by decide)) F61.kp b61 m61 D__law_row D__law_taken D__law_letters D__law_rules D__law_text D_blamed D_lea
end Say
open PySem PySem.W PyProof.Rows
set_option maxRecDepth 100000 in
set_option maxHeartbeats 0 in
theorem PySem.Challenge.cw_saylore_k18_whole_the_fewest_say_all_holds : PySem.Challenge.rw_saylore_k18_whole_the_fewest_say_all.Holds := by
  w_on; o_law; k_head; (case hw => w_witness2)
  k_fill
  refine LamX.walk_ofOwns (l := PySem.Challenge.rw_saylore_k18_whole_the_fewest_say_all) (n := 63) (k := 11) (x := "_law_script") (CX := fun _ => L2.CX0) rfl (by decide) rfl ⟨rfl, by decide, by decide⟩ (fun w h Y => PySem.W.km_in_of Y) ?F (fun _ _ _ _ _ h => h)
  case F =>
    intro w mg fa h KY KX G hmg OT
    refine' Say.all_ok KX G hmg (OT "law" _ (by decide +kernel) hmg) (fun g hg => OT "are_said" g (by decide +kernel) hg) (Say.std_mk ?a39 ?l39 ?c39 ?k39) (Say.std_mk ?a40 ?l40 ?c40 ?k40) (Say.std_mk ?a35 ?l35 ?c35 ?k35) (Say.std_mk ?a34 ?l34 ?c34 ?k34) (Say.std_mk ?a37 ?l37 ?c37 ?k37) (Say.std_mk ?a38 ?l38 ?c38 ?k38) (Say.std_mk ?a36 ?l36 ?c36 ?k36) (Say.std_mk ?a30 ?l30 ?c30 ?k30) (Say.std_mk ?a33 ?l33 ?c33 ?k33) (Say.std_mk ?a31 ?l31 ?c31 ?k31) (Say.std_mk ?a32 ?l32 ?c32 ?k32) (Say.std_mk ?a29 ?l29 ?c29 ?k29) (Say.std_mk ?a44 ?l44 ?c44 ?k44) (Say.std_mk ?a45 ?l45 ?c45 ?k45) (Say.std_mk ?a46 ?l46 ?c46 ?k46) (Say.std_mk ?a62 ?l62 ?c62 ?k62) (Say.std_mk ?a50 ?l50 ?c50 ?k50) (Say.std_mk ?a51 ?l51 ?c51 ?k51) (Say.std_mk ?a47 ?l47 ?c47 ?k47) (Say.std_mk ?a48 ?l48 ?c48 ?k48) (Say.std_mk ?a49 ?l49 ?c49 ?k49) (Say.std_mk ?a61 ?l61 ?c61 ?k61) (Say.std_mk ?a59 ?l59 ?c59 ?k59) (Say.std_mk ?a57 ?l57 ?c57 ?k57) (Say.std_mk ?a56 ?l56 ?c56 ?k56) (Say.std_mk ?a55 ?l55 ?c55 ?k55) (Say.std_mk ?a54 ?l54 ?c54 ?k54) (Say.std_mk ?a64 ?l64 ?c64 ?k64) (Say.std_mk ?a65 ?l65 ?c65 ?k65) (Say.std_mk ?a66 ?l66 ?c66 ?k66) (Say.std_mk ?a67 ?l67 ?c67 ?k67) (Say.std_mk ?a68 ?l68 ?c68 ?k68) (Say.std_mk ?a69 ?l69 ?c69 ?k69) (Say.std_mk ?a70 ?l70 ?c70 ?k70) (Say.std_mk ?a71 ?l71 ?c71 ?k71) ?a_law ?l_law ?c_law ?k_law ?z_len ?z_range ?z_tuple ?z_list ?z_isinstance ?z_str ?z_all ?z_enumerate ?z_sorted ?z_bool ?z_dict ?z_int ?c_small ?c_caps ?c_edge ?c_mrul ?c_lexc ?c_lrs ?c_lso ?c_imost_exceptions ?c_ilongest_word ?c_iown ?c_isounds ?c_imost_samples ?z_super ?z_ValueError ?gSayError ?gBadBook ?gBadWord ?gBadSounds ?gBadCount ?gUnsaid ?gNoLetter ?gNoException ?gOtherLetters ?gBadSamples ?gBadDeed ?gHalted ?gBadText ?eS1 ?eS2 ?eS3 ?Unsaid_e4 ?Unsaid_kBadBook ?Unsaid_kBadWord ?Unsaid_kBadSounds ?Unsaid_kBadCount ?Unsaid_kUnsaid ?Unsaid_kNoLetter ?Unsaid_kNoException ?Unsaid_kOtherLetters ?Unsaid_kBadSamples ?Unsaid_kBadDeed ?Unsaid_kHalted ?Unsaid_kBadText ?Unsaid_kV ?Unsaid_noP ?Unsaid_noN ?Unsaid_noA ?Unsaid_noD ?Unsaid_noR ?Unsaid_ga ?Unsaid_gg ?Unsaid_hd ?Unsaid_ex ?Unsaid_ha ?Unsaid_hm ?x_hn ?x_ht ?xU ?u_sa ?u_iC ?u_tC ?u_kC ?u_tyC ?u_sup ?u_subV ?u_any ?u_main ?u_fn ?u_cd ?u_cell ?u_code ?u_vs ?u_file ?l_code ?l_vs ?l_v11 ?l_v18 ?l_v7 ?l_v9 ?l_v10 ?l_ne ?l_no ?h0_a ?h0_l ?h0_c ?h0_k ?h0_code ?h0_vs ?h0_v11 ?h0_v18 ?h0_v7 ?h0_v9 ?h0_v10 ?h0_ne ?h0_no ?h0_nP ?gComb
    (case a_law => k_is); (case z_len => k_is); (case z_range => k_is); (case z_tuple => k_is); (case z_list => k_is); (case z_isinstance => k_is)
    (case z_str => k_is); (case z_all => k_is); (case z_enumerate => k_is); (case z_sorted => k_is); (case z_bool => k_is); (case z_dict => k_is)
    (case z_int => k_is); (case c_small => k_is); (case c_caps => k_is); (case c_edge => k_is); (case c_mrul => k_is); (case c_lexc => k_is)
    (case c_lrs => k_is); (case c_lso => k_is); (case c_imost_exceptions => k_is); (case c_ilongest_word => k_is); (case c_iown => k_is); (case c_isounds => k_is)
    (case c_imost_samples => k_is); (case z_super => k_is); (case z_ValueError => k_is); (case gSayError => k_is); (case gBadBook => k_is); (case gBadWord => k_is)
    (case gBadSounds => k_is); (case gBadCount => k_is); (case gUnsaid => k_is); (case gNoLetter => k_is); (case gNoException => k_is); (case gOtherLetters => k_is)
    (case gBadSamples => k_is); (case gBadDeed => k_is); (case gHalted => k_is); (case gBadText => k_is); (case h0_a => k_is); (case gComb => k_is)
    (case a39 => k_is); (case l39 => k_is); (case c39 => k_is); (case k39 => k_is); (case a40 => k_is); (case l40 => k_is)
    (case c40 => k_is); (case k40 => k_is); (case a35 => k_is); (case l35 => k_is); (case c35 => k_is); (case k35 => k_is)
    (case a34 => k_is); (case l34 => k_is); (case c34 => k_is); (case k34 => k_is); (case a37 => k_is); (case l37 => k_is)
    (case c37 => k_is); (case k37 => k_is); (case a38 => k_is); (case l38 => k_is); (case c38 => k_is); (case k38 => k_is)
    (case a36 => k_is); (case l36 => k_is); (case c36 => k_is); (case k36 => k_is); (case a30 => k_is); (case l30 => k_is)
    (case c30 => k_is); (case k30 => k_is); (case a33 => k_is); (case l33 => k_is); (case c33 => k_is); (case k33 => k_is)
    (case a31 => k_is); (case l31 => k_is); (case c31 => k_is); (case k31 => k_is); (case a32 => k_is); (case l32 => k_is)
    (case c32 => k_is); (case k32 => k_is); (case a29 => k_is); (case l29 => k_is); (case c29 => k_is); (case k29 => k_is)
    (case a44 => k_is); (case l44 => k_is); (case c44 => k_is); (case k44 => k_is); (case a45 => k_is); (case l45 => k_is)
    (case c45 => k_is); (case k45 => k_is); (case a46 => k_is); (case l46 => k_is); (case c46 => k_is); (case k46 => k_is)
    (case a62 => k_is); (case l62 => k_is); (case c62 => k_is); (case k62 => k_is); (case a50 => k_is); (case l50 => k_is)
    (case c50 => k_is); (case k50 => k_is); (case a51 => k_is); (case l51 => k_is); (case c51 => k_is); (case k51 => k_is)
    (case a47 => k_is); (case l47 => k_is); (case c47 => k_is); (case k47 => k_is); (case a48 => k_is); (case l48 => k_is)
    (case c48 => k_is); (case k48 => k_is); (case a49 => k_is); (case l49 => k_is); (case c49 => k_is); (case k49 => k_is)
    (case a61 => k_is); (case l61 => k_is); (case c61 => k_is); (case k61 => k_is); (case a59 => k_is); (case l59 => k_is)
    (case c59 => k_is); (case k59 => k_is); (case a57 => k_is); (case l57 => k_is); (case c57 => k_is); (case k57 => k_is)
    (case a56 => k_is); (case l56 => k_is); (case c56 => k_is); (case k56 => k_is); (case a55 => k_is); (case l55 => k_is)
    (case c55 => k_is); (case k55 => k_is); (case a54 => k_is); (case l54 => k_is); (case c54 => k_is); (case k54 => k_is)
    (case a64 => k_is); (case l64 => k_is); (case c64 => k_is); (case k64 => k_is); (case a65 => k_is); (case l65 => k_is)
    (case c65 => k_is); (case k65 => k_is); (case a66 => k_is); (case l66 => k_is); (case c66 => k_is); (case k66 => k_is)
    (case a67 => k_is); (case l67 => k_is); (case c67 => k_is); (case k67 => k_is); (case a68 => k_is); (case l68 => k_is)
    (case c68 => k_is); (case k68 => k_is); (case a69 => k_is); (case l69 => k_is); (case c69 => k_is); (case k69 => k_is)
    (case a70 => k_is); (case l70 => k_is); (case c70 => k_is); (case k70 => k_is); (case a71 => k_is); (case l71 => k_is)
    (case c71 => k_is); (case k71 => k_is); (case l_law => k_is); (case c_law => k_is); (case k_law => k_is); (case eS1 => k_is)
    (case eS2 => k_is); (case eS3 => k_is); (case Unsaid_e4 => k_is); (case Unsaid_kBadBook => kit_is); (case Unsaid_kBadWord => kit_is); (case Unsaid_kBadSounds => kit_is)
    (case Unsaid_kBadCount => kit_is); (case Unsaid_kUnsaid => kit_is); (case Unsaid_kNoLetter => kit_is); (case Unsaid_kNoException => kit_is); (case Unsaid_kOtherLetters => kit_is); (case Unsaid_kBadSamples => kit_is)
    (case Unsaid_kBadDeed => kit_is); (case Unsaid_kHalted => kit_is); (case Unsaid_kBadText => kit_is); (case Unsaid_kV => kit_is); (case Unsaid_noP => k_is); (case Unsaid_noN => k_is)
    (case Unsaid_noA => k_is); (case Unsaid_noD => k_is); (case Unsaid_noR => k_is); (case Unsaid_ga => k_is); (case Unsaid_gg => k_is); (case Unsaid_hd => k_is)
    (case Unsaid_ex => k_is); (case Unsaid_ha => k_is); (case Unsaid_hm => k_is); (case x_hn => k_is); (case x_ht => k_is); (case xU => k_is)
    (case u_sa => k_is); (case u_iC => k_is); (case u_tC => k_is); (case u_kC => k_is); (case u_tyC => k_is); (case u_sup => ks_is)
    (case u_subV => k_is); (case u_any => k_is); (case u_main => decide +kernel); (case u_fn => k_is); (case u_cd => k_is); (case u_cell => k_is)
    (case u_code => k_is); (case u_vs => rfl); (case u_file => decide +kernel); (case l_code => k_is); (case l_vs => rfl); (case l_v11 => rfl)
    (case l_v18 => rfl); (case l_v7 => rfl); (case l_v9 => rfl); (case l_v10 => rfl); (case l_ne => decide +kernel); (case l_no => kernel_rfl)
    (case h0_l => k_is); (case h0_c => k_is); (case h0_k => k_is); (case h0_code => k_is); (case h0_vs => rfl); (case h0_v11 => rfl)
    (case h0_v18 => rfl); (case h0_v7 => rfl); (case h0_v9 => rfl); (case h0_v10 => rfl); (case h0_ne => decide +kernel); (case h0_no => kernel_rfl)
    (case h0_nP => decide +kernel)
