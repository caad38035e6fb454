import PyProof.Rows.All
import Wide.All
import OpenK.AllK
import Wide.FinOn
import HandS.Base
import HandS.Call
import HandS.List
import HandS.Comp
import HandS.Ends
import HandS.Dict
import HandS.Iter
import HandS.Text
import HandS.Words
import HandS.WordsList
import HandS.Evl
import HandS.Codes
import HandS.FStr
import PyProof.Rows.MatchSeqLen
import KE.KUnpack
import KE.GoesEnumKw
import HandS.WordsExc
import HandS.Strs
import HandS.TupMul
import HandS.Gcd
import KE.KMathGC
import PyProof.P3In
import HandS.IsInst
import PySem.Challenge.RW_messageways_k05_texts_of_languages
set_option Elab.async false
set_option maxRecDepth 100000
namespace Mw
open PySem L2
def top (i : Nat) : Stmt := PySem.Challenge.pw_messageways_k05_texts_of_languages.main.body.getD i (.Pass ⟨0, 0, 0, 0⟩)
/-! ### trees of messages: a message is a chain of nodes, the cases of a choice a chain of cas -/
inductive T where
  | nil
  | text (s : Str) (r : T)
  | shw (n : Str) (r : T)
  | num (r : T)
  | cho (hd : List V) (cs o r : T)
  | cas (k : V) (m r : T)
/-- the values vs are the nodes (the cases) of the tree, as the heap has them -/
def Nodes (H : Hp) : T → List V → Prop
  | .nil, vs => vs = []
  | .text s r, vs => ∃ p ws, vs = .ref p :: ws ∧ H p = some (.tup [.str "text", .str s]) ∧ Nodes H r ws
  | .shw n r, vs => ∃ p ws, vs = .ref p :: ws ∧ H p = some (.tup [.str "show", .str n]) ∧ Nodes H r ws
  | .num r, vs => ∃ p ws, vs = .ref p :: ws ∧ H p = some (.tup [.str "number"]) ∧ Nodes H r ws
  | .cho hd cs o r, vs => ∃ p ws ca cvs oa ovs, vs = .ref p :: ws ∧ H p = some (.tup (hd ++ [.ref ca, .ref oa])) ∧ H ca = some (.lst cvs) ∧ Nodes H cs cvs ∧ H oa = some (.lst ovs) ∧ Nodes H o ovs ∧ Nodes H r ws
  | .cas k m r, vs => ∃ p ws ma mvs, vs = .ref p :: ws ∧ H p = some (.tup [k, .ref ma]) ∧ H ma = some (.lst mvs) ∧ Nodes H m mvs ∧ Nodes H r ws
/-- a list at a that is a message -/
def At (H : Hp) (a : Addr) (t : T) : Prop := ∃ vs, H a = some (.lst vs) ∧ Nodes H t vs
/-- all but the box stays; the box is a list of a ref and an int -/
def IsBox (vs : List V) : Prop := ∃ d i, vs = [.ref d, .int i]
def Ext (B : Addr) (H H' : Hp) : Prop := ∀ b o, b ≠ B → H b = some o → H' b = some o
theorem Ext.refl {B : Addr} (H : Hp) : Ext B H H := fun _ _ _ h => h
theorem Ext.trans {B : Addr} {H H1 H2 : Hp} (a : Ext B H H1) (b : Ext B H1 H2) : Ext B H H2 := fun c o n h => b c o n (a c o n h)
theorem Ext.of {B : Addr} {H H' : Hp} (s : Same H H') : Ext B H H' := fun b o _ h => s b o h
theorem same_new {H : Hp} {p : Addr} (h : H p = none) (o : HO) : Same H (upd H p o) := fun b u q => by
  rw [upd_ne (ne_of_none q h)]
  exact q
theorem same_mut {H H' : Hp} {p : Addr} (s : Same H H') (h : H p = none) (o : HO) : Same H (upd H' p o) := fun b u q => by
  rw [upd_ne (ne_of_none q h)]
  exact s b u q
theorem Nodes.refs {H : Hp} : ∀ {t : T} {vs : List V}, Nodes H t vs → ∀ v ∈ vs, ∃ a, v = .ref a
  | .nil, _, h, v, hv => by
    have h' : _ = [] := h
    subst h'
    cases hv
  | .text s r, _, h, v, hv => by
    obtain ⟨p, ws, rfl, _, hr⟩ := h
    rcases List.mem_cons.mp hv with rfl | hv
    · exact ⟨_, rfl⟩
    · exact Nodes.refs hr v hv
  | .shw n r, _, h, v, hv => by
    obtain ⟨p, ws, rfl, _, hr⟩ := h
    rcases List.mem_cons.mp hv with rfl | hv
    · exact ⟨_, rfl⟩
    · exact Nodes.refs hr v hv
  | .num r, _, h, v, hv => by
    obtain ⟨p, ws, rfl, _, hr⟩ := h
    rcases List.mem_cons.mp hv with rfl | hv
    · exact ⟨_, rfl⟩
    · exact Nodes.refs hr v hv
  | .cho hd cs o r, _, h, v, hv => by
    obtain ⟨p, ws, ca, cvs, oa, ovs, rfl, _, _, _, _, _, hr⟩ := h
    rcases List.mem_cons.mp hv with rfl | hv
    · exact ⟨_, rfl⟩
    · exact Nodes.refs hr v hv
  | .cas k m r, _, h, v, hv => by
    obtain ⟨p, ws, ma, mvs, rfl, _, _, _, hr⟩ := h
    rcases List.mem_cons.mp hv with rfl | hv
    · exact ⟨_, rfl⟩
    · exact Nodes.refs hr v hv
theorem Nodes.notBox {H : Hp} {t : T} {vs : List V} (h : Nodes H t vs) : ¬ IsBox vs := by
  rintro ⟨d, i, rfl⟩
  obtain ⟨a, e⟩ := h.refs (.int i) (by simp)
  cases e
theorem lst_ne {B a : Addr} {H : Hp} {bs vs : List V} (hb : H B = some (.lst bs)) (ib : IsBox bs) (ha : H a = some (.lst vs)) (nv : ¬ IsBox vs) : a ≠ B := by
  intro e
  subst e
  rw [hb] at ha
  cases ha
  exact nv ib
theorem tup_ne {B a : Addr} {H : Hp} {bs vs : List V} (hb : H B = some (.lst bs)) (ha : H a = some (.tup vs)) : a ≠ B := by
  intro e
  subst e
  rw [hb] at ha
  cases ha
/-- a tree stays where all but the box stays -/
theorem Nodes.ext {B : Addr} {H H' : Hp} {bs : List V} (hb : H B = some (.lst bs)) (ib : IsBox bs) (e : Ext B H H') : ∀ {t : T} {vs : List V}, Nodes H t vs → Nodes H' t vs
  | .nil, _, h => h
  | .text s r, _, h => by
    obtain ⟨p, ws, rfl, hp, hr⟩ := h
    exact ⟨p, ws, rfl, e _ _ (tup_ne hb hp) hp, Nodes.ext hb ib e hr⟩
  | .shw n r, _, h => by
    obtain ⟨p, ws, rfl, hp, hr⟩ := h
    exact ⟨p, ws, rfl, e _ _ (tup_ne hb hp) hp, Nodes.ext hb ib e hr⟩
  | .num r, _, h => by
    obtain ⟨p, ws, rfl, hp, hr⟩ := h
    exact ⟨p, ws, rfl, e _ _ (tup_ne hb hp) hp, Nodes.ext hb ib e hr⟩
  | .cho hd cs o r, _, h => by
    obtain ⟨p, ws, ca, cvs, oa, ovs, rfl, hp, hc, hcs, ho, hos, hr⟩ := h
    exact ⟨p, ws, ca, cvs, oa, ovs, rfl, e _ _ (tup_ne hb hp) hp, e _ _ (lst_ne hb ib hc hcs.notBox) hc, Nodes.ext hb ib e hcs, e _ _ (lst_ne hb ib ho hos.notBox) ho, Nodes.ext hb ib e hos, Nodes.ext hb ib e hr⟩
  | .cas k m r, _, h => by
    obtain ⟨p, ws, ma, mvs, rfl, hp, hm, hms, hr⟩ := h
    exact ⟨p, ws, ma, mvs, rfl, e _ _ (tup_ne hb hp) hp, e _ _ (lst_ne hb ib hm hms.notBox) hm, Nodes.ext hb ib e hms, Nodes.ext hb ib e hr⟩
theorem Nodes.same {H H' : Hp} (e : Same H H') : ∀ {t : T} {vs : List V}, Nodes H t vs → Nodes H' t vs
  | .nil, _, h => h
  | .text s r, _, h => by
    obtain ⟨p, ws, rfl, hp, hr⟩ := h
    exact ⟨p, ws, rfl, e _ _ hp, Nodes.same e hr⟩
  | .shw n r, _, h => by
    obtain ⟨p, ws, rfl, hp, hr⟩ := h
    exact ⟨p, ws, rfl, e _ _ hp, Nodes.same e hr⟩
  | .num r, _, h => by
    obtain ⟨p, ws, rfl, hp, hr⟩ := h
    exact ⟨p, ws, rfl, e _ _ hp, Nodes.same e hr⟩
  | .cho hd cs o r, _, h => by
    obtain ⟨p, ws, ca, cvs, oa, ovs, rfl, hp, hc, hcs, ho, hos, hr⟩ := h
    exact ⟨p, ws, ca, cvs, oa, ovs, rfl, e _ _ hp, e _ _ hc, Nodes.same e hcs, e _ _ ho, Nodes.same e hos, Nodes.same e hr⟩
  | .cas k m r, _, h => by
    obtain ⟨p, ws, ma, mvs, rfl, hp, hm, hms, hr⟩ := h
    exact ⟨p, ws, ma, mvs, rfl, e _ _ hp, e _ _ hm, Nodes.same e hms, Nodes.same e hr⟩
/-- two chains, one behind the other -/
def T.app : T → T → T
  | .nil, u => u
  | .text s r, u => .text s (r.app u)
  | .shw n r, u => .shw n (r.app u)
  | .num r, u => .num (r.app u)
  | .cho hd cs o r, u => .cho hd cs o (r.app u)
  | .cas k m r, u => .cas k m (r.app u)
theorem Nodes.app {H : Hp} {u : T} {us : List V} (hu : Nodes H u us) : ∀ {t : T} {vs : List V}, Nodes H t vs → Nodes H (t.app u) (vs ++ us)
  | .nil, _, h => by
    have h' : _ = [] := h
    subst h'
    exact hu
  | .text s r, _, h => by
    obtain ⟨p, ws, rfl, hp, hr⟩ := h
    exact ⟨p, ws ++ us, rfl, hp, Nodes.app hu hr⟩
  | .shw n r, _, h => by
    obtain ⟨p, ws, rfl, hp, hr⟩ := h
    exact ⟨p, ws ++ us, rfl, hp, Nodes.app hu hr⟩
  | .num r, _, h => by
    obtain ⟨p, ws, rfl, hp, hr⟩ := h
    exact ⟨p, ws ++ us, rfl, hp, Nodes.app hu hr⟩
  | .cho hd cs o r, _, h => by
    obtain ⟨p, ws, ca, cvs, oa, ovs, rfl, hp, hc, hcs, ho, hos, hr⟩ := h
    exact ⟨p, ws ++ us, ca, cvs, oa, ovs, rfl, hp, hc, hcs, ho, hos, Nodes.app hu hr⟩
  | .cas k m r, _, h => by
    obtain ⟨p, ws, ma, mvs, rfl, hp, hm, hms, hr⟩ := h
    exact ⟨p, ws ++ us, ma, mvs, rfl, hp, hm, hms, Nodes.app hu hr⟩
section
variable {P : Program} {w : World} {K : PySem.W.Frag} {mg : Str → Option Value} {base : Heap}
/-! ### _law_cell -/
abbrev sCell : Stmt := top 25
theorem scCell : FnScope ["script", "k"] ["script", "k"] (defScope sCell) := ⟨rfl, rfl, rfl, by decide +kernel, rfl, by decide +kernel, by decide +kernel⟩
def spCell (K : PySem.W.Frag) : Sp := fun vs H Q _ => ∃ (a : Addr) (ns : List Int) (k : Int), vs = [.ref a, .int k] ∧ SqL K H a (ns.map V.int) ∧ 0 ≤ k ∧ ∀ z, Q (.int z) H
theorem ok_cell {f : Addr} {fd : FuncData} (F : Fun K "_law_cell" "_law_cell" sCell f fd) (ml : mg "len" = none) : FnOk P w K mg base CX0 1 f fd ["script", "k"] (spCell K) := by
  refine F.ok scCell (fun vs H Q E h => ?_) (fun cdv A outer s H vs Q E hr h => ?_)
  · obtain ⟨a, ns, k, rfl, _⟩ := h
    rfl
  obtain ⟨a, ns, k, rfl, hS, h0, q⟩ := h
  refine ⟨_, pss_cons (ps_if (pt_cmpR op_lt (pv 1) (pe_callB call_len_seq (by rfl) ml PySem.boot_len (pa_cons (pv 0) pa_nil)) (nomark _)) (pss_one (ps_ret (pe_ix ix_list (pv 0) (pv 1) (fun _ _ => rfl)))) pss_nil)
    (pss_one (ps_ret pe_int)), ?_⟩
  refine ⟨_, rfl, _, rfl, a, _, rfl, .inl hS, _, _, rfl, rfl, _, rfl, ?_⟩
  refine ite2 (fun c => ?_) (fun c => ?_)
  · have c' := of_decide_eq_true c
    rw [List.length_map] at c'
    have hk : k.toNat < ns.length := by omega
    refine ⟨_, rfl, _, rfl, a, _, k, .int ns[k.toNat], rfl, rfl, hS, at_of (j := k.toNat) (by omega) (by rw [List.getElem?_map, List.getElem?_eq_getElem hk] <;> rfl), q _⟩
  · exact q _
end
end Mw

namespace Mw
open PySem L2
section
variable {P : Program} {w : World} {K : PySem.W.Frag} {mg : Str → Option Value} {base : Heap}
/-! ### _law_digits: a new list of ints -/
abbrev sDigits : Stmt := top 26
theorem scDigits : FnScope ["script", "first", "last", "digits", "k", "cell", "turn", "seed"] ["script", "first", "last"] (defScope sDigits) := ⟨rfl, rfl, rfl, by decide +kernel, rfl, by decide +kernel, by decide +kernel⟩
def spDigits (K : PySem.W.Frag) : Sp := fun vs H Q _ => ∃ (a : Addr) (ns : List Int), vs = [.ref a, .int 0, .int 63] ∧ SqL K H a (ns.map V.int) ∧ ∀ (d : Addr) (H' : Hp) (ds : List Int), H d = none → Same H H' → H' d = some (.lst (ds.map V.int)) → Q (.ref d) H'
theorem len_ints (ds : List Int) (z : Int) : ds.map V.int ++ [V.int z] = (ds ++ [z]).map V.int := by simp
theorem ok_digits {f fC : Addr} {fd fdC : FuncData} (F : Fun K "_law_digits" "_law_digits" sDigits f fd) (GC : FnOk P w K mg base CX0 1 fC fdC ["script", "k"] (spCell K)) (bC : Binds K fdC ["script", "k"] []) (kC : PySem.W.keepIn K (.ref fC) = true) (mC : mg "_law_cell" = some (.ref fC)) (mr : mg "range" = none) (mi : mg "int" = none) :
    FnOk P w K mg base CX0 2 f fd ["script", "first", "last"] (spDigits K) := by
  refine F.ok scDigits (fun vs H Q E h => ?_) (fun cdv A outer s H vs Q E hr h => ?_)
  · obtain ⟨a, ns, rfl, _⟩ := h
    rfl
  obtain ⟨a, ns, rfl, hS, q⟩ := h
  have nd := scDigits.nd
  refine ⟨_, pss_cons (ps_set (i := 3) nd rfl (.inl rfl) (pe_lst pa_nil))
    (pss_cons (ps_for PassesOwn.never rfl (pi_range2 rfl mr (pa_cons (pv 1) (pa_cons (pv 2) pa_nil))) (pg_name (i := 4) nd rfl (.inl rfl))
      (pss_cons (ps_set (i := 5) nd rfl (.inl rfl) (pe_call GC hr rfl mC kC bC .nil pass0 (pa_cons (pv 0) (pa_cons (pv 4) pa_nil))))
      (Evl.pss_cut (ps_if (pt_cmpR op_lt (pv 5) pe_int (nomark _)) (pss_one (ps_set (i := 5) nd rfl (.inl rfl) (pe_op op_sub pe_int (pe_op op_mul pe_int (pv 5))))) pss_nil)
      (pss_one (ps_if (pt_cmpR op_ge (pv 5) (pe_op op_pow pe_int pe_int) (nomark _))
        (pss_one (ps_for PassesOwn.never rfl (pi_range1 rfl mr (pa_cons pe_int pa_nil)) (pg_name (i := 6) nd rfl (.inl rfl))
          (pss_one (ps_if (pt_cmpR op_gt (pv 5) pe_int (nomark _))
            (pss_cons (ps_expr (pe_bm PySem.F.plainAttrs_list PySem.F.slot_list_append PySem.F.type_list_append mt_append (pv 3) (pa_cons (pe_op op_mod (pe_callTy call_int1 (by rfl) mi (by decide +kernel) (pa_cons (pv 5) pa_nil)) pe_int) pa_nil)))
            (pss_one (ps_set (i := 5) nd rfl (.inl rfl) (pe_op op_fdiv (pv 5) pe_int)))) pss_nil))))
        (pss_cons (ps_set (i := 7) nd rfl (.inl rfl) (pe_op op_mod (pe_callTy call_int1 (by rfl) mi (by decide +kernel) (pa_cons (pe_op op_add (pe_op op_add (pe_op op_mul (pv 5) pe_int) (pe_op op_mul (pv 4) pe_int)) pe_int) pa_nil)) pe_int))
        (pss_one (ps_for PassesOwn.never rfl (pi_range1 rfl mr (pa_cons pe_int pa_nil)) (pg_name (i := 6) nd rfl (.inl rfl))
          (pss_cons (ps_set (i := 7) nd rfl (.inl rfl) (pe_op op_mod (pe_callTy call_int1 (by rfl) mi (by decide +kernel) (pa_cons (pe_op op_add (pe_op op_add (pe_op op_mul (pv 7) pe_int) (pe_op op_mul pe_int (pv 6))) pe_int) pa_nil)) pe_int))
          (pss_one (ps_expr (pe_bm PySem.F.plainAttrs_list PySem.F.slot_list_append PySem.F.type_list_append mt_append (pv 3) (pa_cons (pe_op op_mod (pe_callTy call_int1 (by rfl) mi (by decide +kernel) (pa_cons (pe_op op_fdiv (pv 7) pe_int) pa_nil)) pe_int) pa_nil)))))))))))))
    (pss_one (ps_ret (pv 3)))), ?_⟩
  refine ⟨Nat.zero_le _, fun d nd0 => ?_⟩
  have s1 : Same H (upd H d (.lst [])) := same_new nd0 _
  refine ⟨_, rfl, _, rfl, 0, 63, rfl, by decide, for_range (lo := 0) (n := (63 - 0 : Int).toNat) (fun i σ H' => ∃ (ds : List Int) (o4 o5 o6 o7 : Option V), σ = [some (.ref a), some (.int 0), some (.int 63), some (.ref d), o4, o5, o6, o7] ∧ Same H H' ∧ H' d = some (.lst (ds.map V.int)) ∧ ds.length ≤ 60 * i)
    ⟨[], none, none, none, none, rfl, s1, upd_same, Nat.le_refl _⟩ ?_ ?_⟩
  · rintro i σ H2 hi ⟨ds, o4, o5, o6, o7, rfl, s2, hd, hl⟩
    refine ⟨_, rfl, _, rfl, a, ns, _, rfl, s2.seq hS, by omega, fun z => ?_⟩
    refine ⟨fun σ' H' => ∃ z' : Int, σ' = [some (.ref a), some (.int 0), some (.int 63), some (.ref d), some (.int (0 + i)), some (.int z'), o6, o7] ∧ H' = H2, ?_, ?_⟩
    · refine ⟨_, rfl, _, _, rfl, rfl, _, rfl, ?_⟩
      refine ite2 (fun _ => ?_) (fun _ => ?_)
      · exact ⟨_, rfl, _, _, rfl, rfl, .inl (by decide), _, _, rfl, rfl, _, rfl, rfl⟩
      · exact ⟨_, rfl, rfl⟩
    · rintro σ' H' ⟨z', rfl, rfl⟩
      refine ⟨_, rfl, _, _, rfl, rfl, (by unfold CPow; decide), _, _, rfl, rfl, _, rfl, ?_⟩
      refine ite2 (fun _ => ?_) (fun _ => ?_)
      · refine ⟨60, rfl, by decide, by decide, for_range (lo := 0) (n := 60) (fun j σ H' => ∃ (ds' : List Int) (z' : Int) (o6 : Option V), σ = [some (.ref a), some (.int 0), some (.int 63), some (.ref d), some (.int (0 + i)), some (.int z'), o6, o7] ∧ Same H H' ∧ H' d = some (.lst (ds'.map V.int)) ∧ ds'.length ≤ 60 * i + j)
          ⟨ds, z', o6, rfl, s2, hd, hl⟩ ?_ ?_⟩
        · rintro j σ H3 hj ⟨ds', z'', o6, rfl, s3, hd3, hl3⟩
          refine ⟨_, rfl, _, _, rfl, rfl, _, rfl, ?_⟩
          refine ite2 (fun _ => ?_) (fun _ => ?_)
          · refine ⟨_, rfl, .inl ⟨rfl, _, SqL.of hd3⟩, _, rfl, .inl ⟨_, rfl, _, _, rfl, rfl, (by show (0 : Int) < 1000; decide), d, _, _, rfl, rfl, hd3, ?_, ?_⟩⟩
            · rw [List.length_map]
              exact Nat.lt_of_lt_of_le (show ds'.length < 100000 by omega) (by decide)
            · refine ⟨_, rfl, _, _, rfl, rfl, ⟨by decide, by decide⟩, ds' ++ [z'' % 1000], _, _, rfl, same_mut s3 nd0 _, ?_, ?_⟩
              · rw [upd_same, len_ints]
              · rw [List.length_append, List.length_singleton]
                omega
          · exact ⟨ds', _, _, rfl, s3, hd3, by omega⟩
        · rintro σ H3 ⟨ds', z'', o6, rfl, s3, hd3, hl3⟩
          exact ⟨ds', _, _, _, _, rfl, s3, hd3, by omega⟩
      · refine ⟨_, rfl, _, _, rfl, rfl, .inr (by decide), _, rfl, _, _, rfl, rfl, .inr (by decide), _, _, rfl, rfl, _, _, rfl, rfl, .inl ⟨_, rfl, _, _, rfl, rfl, (by show (0 : Int) < 2147483647; decide), ?_⟩⟩
        refine ⟨12, rfl, by decide, by decide, for_range (lo := 0) (n := 12) (fun j σ H' => ∃ (ds' : List Int) (z7 : Int) (o6 : Option V), σ = [some (.ref a), some (.int 0), some (.int 63), some (.ref d), some (.int (0 + i)), some (.int z'), o6, some (.int z7)] ∧ Same H H' ∧ H' d = some (.lst (ds'.map V.int)) ∧ ds'.length ≤ 60 * i + j)
          ⟨ds, _, o6, rfl, s2, hd, hl⟩ ?_ ?_⟩
        · rintro j σ H3 hj ⟨ds', z7, o6, rfl, s3, hd3, hl3⟩
          refine ⟨_, rfl, _, _, rfl, rfl, .inr (by decide), _, rfl, _, _, rfl, rfl, .inl (by decide), _, _, rfl, rfl, _, _, rfl, rfl, .inl ⟨_, rfl, _, _, rfl, rfl, (by show (0 : Int) < 2147483647; decide), ?_⟩⟩
          refine ⟨_, rfl, .inl ⟨rfl, _, SqL.of hd3⟩, _, rfl, _, _, rfl, rfl, ⟨by decide, by decide⟩, .inl ⟨_, rfl, _, _, rfl, rfl, (by show (0 : Int) < 1000; decide), d, _, _, rfl, rfl, hd3, ?_, ?_⟩⟩
          · rw [List.length_map]
            exact Nat.lt_of_lt_of_le (show ds'.length < 100000 by omega) (by decide)
          · refine ⟨ds' ++ [((z7 * 16807 + 7 * (0 + (j : Int)) + 1) % 2147483647 / 997) % 1000], _, _, rfl, same_mut s3 nd0 _, ?_, ?_⟩
            · rw [upd_same, len_ints]
            · rw [List.length_append, List.length_singleton]
              omega
        · rintro σ H3 ⟨ds', z7, o6, rfl, s3, hd3, hl3⟩
          exact ⟨ds', _, _, _, _, rfl, s3, hd3, by omega⟩
  · rintro σ H2 ⟨ds, o4, o5, o6, o7, rfl, s2, hd, hl⟩
    exact ⟨_, rfl, q d H2 ds nd0 s2 hd⟩
end
end Mw

namespace Mw
open PySem L2
/-! ### how a heap goes on: all but the box stays, nothing is given up -/
structure Go (B : Addr) (H H' : Hp) : Prop where
  ext : ∀ b o, b ≠ B → H b = some o → H' b = some o
  dom : ∀ b, H' b = none → H b = none
theorem Go.refl (B : Addr) (H : Hp) : Go B H H := ⟨fun _ _ _ h => h, fun _ h => h⟩
theorem Go.trans {B : Addr} {H H1 H2 : Hp} (a : Go B H H1) (b : Go B H1 H2) : Go B H H2 := ⟨fun c o n h => b.ext c o n (a.ext c o n h), fun c h => a.dom c (b.dom c h)⟩
theorem upd_none {H : Hp} {p b : Addr} {o : HO} (h : upd H p o b = none) : H b = none := by
  unfold upd at h
  split at h
  · cases h
  · exact h
theorem Go.new {B : Addr} {H : Hp} {p : Addr} (h : H p = none) (o : HO) : Go B H (upd H p o) := ⟨fun b u _ q => same_new h o b u q, fun b q => upd_none q⟩
theorem Go.mut {B : Addr} {H H' : Hp} {p : Addr} (g : Go B H H') (h : H p = none) (o : HO) : Go B H (upd H' p o) :=
  ⟨fun b u n q => by
    rw [upd_ne (ne_of_none q h)]
    exact g.ext b u n q, fun b q => g.dom b (upd_none q)⟩
theorem Go.box (B : Addr) (H : Hp) (o : HO) : Go B H (upd H B o) := ⟨fun b u n q => by rw [upd_ne n]; exact q, fun b q => upd_none q⟩
theorem Go.same {B : Addr} {H H' : Hp} (s : Same H H') : Go B H H' := ⟨fun b o _ h => s b o h, fun b h => s.free h⟩
/-- what is new in H, seen from H0 -/
def fr (H0 H : Hp) : Hp := fun a => match H0 a with
  | none => H a
  | some _ => none
theorem fr_new {H0 H : Hp} {a : Addr} (h : H0 a = none) : fr H0 H a = H a := by
  unfold fr
  rw [h]
theorem fr_old {H0 H : Hp} {a : Addr} {o : HO} (h : H0 a = some o) : fr H0 H a = none := by
  unfold fr
  rw [h]
theorem fr_in {H0 H : Hp} {a : Addr} {o : HO} (h : fr H0 H a = some o) : H0 a = none ∧ H a = some o := by
  unfold fr at h
  split at h
  · exact ⟨by assumption, h⟩
  · cases h
theorem fr_go {B : Addr} {H0 H1 H2 : Hp} {ob : HO} (hb : H0 B = some ob) (g : Go B H1 H2) : Same (fr H0 H1) (fr H0 H2) := fun a o h => by
  obtain ⟨h0, h1⟩ := fr_in h
  rw [fr_new h0]
  exact g.ext a o (by rintro rfl; rw [hb] at h0; cases h0) h1
theorem fr_same {H0 H1 H2 : Hp} (g : Same H1 H2) : Same (fr H0 H1) (fr H0 H2) := fun a o h => by
  obtain ⟨h0, h1⟩ := fr_in h
  rw [fr_new h0]
  exact g a o h1
theorem fr_mut {H0 H1 : Hp} {l : Addr} {ol : HO} (hl : H0 l = some ol) (o : HO) : Same (fr H0 H1) (fr H0 (upd H1 l o)) := fun a u h => by
  obtain ⟨h0, h1⟩ := fr_in h
  rw [fr_new h0, upd_ne (by rintro rfl; rw [hl] at h0; cases h0)]
  exact h1
theorem fr_dom {H0 H1 H2 : Hp} (g : ∀ b, H1 b = none → H0 b = none) : Same (fr H1 H2) (fr H0 H2) := fun a u h => by
  obtain ⟨h0, h1⟩ := fr_in h
  rw [fr_new (g a h0)]
  exact h1
theorem fr_out {H0 H : Hp} : Same (fr H0 H) H := fun a o h => (fr_in h).2
/-- the box: digits and a place -/
def Box (H : Hp) (B d : Addr) : Prop := ∃ (ds : List Int) (i : Int), H B = some (.lst [.ref d, .int i]) ∧ H d = some (.lst (ds.map V.int)) ∧ 0 ≤ i
theorem Box.isB {H : Hp} {B d : Addr} (b : Box H B d) : ∃ o, H B = some o := by
  obtain ⟨ds, i, h, _⟩ := b
  exact ⟨_, h⟩
theorem Box.isD {H : Hp} {B d : Addr} (b : Box H B d) : ∃ o, H d = some o := by
  obtain ⟨ds, i, _, h, _⟩ := b
  exact ⟨_, h⟩
theorem Box.neB {H : Hp} {B d l : Addr} (b : Box H B d) (h : H l = none) : l ≠ B := by
  obtain ⟨o, hB⟩ := b.isB
  exact (ne_of_none hB h).symm
theorem Box.neD {H : Hp} {B d l : Addr} (b : Box H B d) (h : H l = none) : l ≠ d := by
  obtain ⟨o, hB⟩ := b.isD
  exact (ne_of_none hB h).symm
theorem Box.ne {H : Hp} {B d : Addr} {ds : List Int} {i : Int} (h : H B = some (.lst [.ref d, .int i])) (hd : H d = some (.lst (ds.map V.int))) : d ≠ B := by
  rintro rfl
  rw [h] at hd
  cases ds with
  | nil => cases hd
  | cons z r => cases hd
theorem Box.same {H H' : Hp} {B d : Addr} (s : Same H H') (b : Box H B d) : Box H' B d := by
  obtain ⟨ds, i, h, hd, hi⟩ := b
  exact ⟨ds, i, s _ _ h, s _ _ hd, hi⟩
theorem Box.mut {H : Hp} {B d l : Addr} (b : Box H B d) (hB : l ≠ B) (hd : l ≠ d) (o : HO) : Box (upd H l o) B d := by
  obtain ⟨ds, i, h, hd', hi⟩ := b
  exact ⟨ds, i, by rw [upd_ne hB.symm]; exact h, by rw [upd_ne hd.symm]; exact hd', hi⟩
theorem Box.new {H : Hp} {B d l : Addr} (b : Box H B d) (h : H l = none) (o : HO) : Box (upd H l o) B d := b.mut (b.neB h) (b.neD h) o
section
variable {P : Program} {w : World} {K : PySem.W.Frag} {mg : Str → Option Value} {base : Heap}
/-! ### _law_draw -/
abbrev sDraw : Stmt := top 27
theorem scDraw : FnScope ["box", "many", "at"] ["box", "many"] (defScope sDraw) := ⟨rfl, rfl, rfl, by decide +kernel, rfl, by decide +kernel, by decide +kernel⟩
def spDraw : Sp := fun vs H Q _ => ∃ (B d : Addr) (n : Int), vs = [.ref B, .int n] ∧ 0 < n ∧ Box H B d ∧ ∀ z H', 0 ≤ z → z < n → Go B H H' → Box H' B d → Q (.int z) H'
theorem ok_draw {f : Addr} {fd : FuncData} (F : Fun K "_law_draw" "_law_draw" sDraw f fd) (ml : mg "len" = none) (mi : mg "int" = none) : FnOk P w K mg base CX0 1 f fd ["box", "many"] spDraw := by
  refine F.ok scDraw (fun vs H Q E h => ?_) (fun cdv A outer s H vs Q E hr h => ?_)
  · obtain ⟨B, d, n, rfl, _⟩ := h
    rfl
  obtain ⟨B, d, n, rfl, h0, ⟨ds, i, hB, hd, hi⟩, q⟩ := h
  have nd := scDraw.nd
  refine ⟨_, pss_cons (ps_set (i := 2) nd rfl (.inl rfl) (pe_ix ix_list (pv 0) pe_int (fun _ _ => rfl)))
    (pss_cons (ps_asg (pe_op op_add (pv 2) pe_int) (pg_sub (pv 0) pe_int set_list))
    (pss_cons (ps_if (pt_cmpR op_lt (pv 2) (pe_callB call_len_seq (by rfl) ml PySem.boot_len (pa_cons (pe_ix ix_list (pv 0) pe_int (fun _ _ => rfl)) pa_nil)) (nomark _))
      (pss_one (ps_ret (pe_op op_mod (pe_callTy call_int1 (by rfl) mi (by decide +kernel) (pa_cons (pe_ix ix_list (pe_ix ix_list (pv 0) pe_int (fun _ _ => rfl)) (pv 2) (fun _ _ => rfl)) pa_nil)) (pv 1)))) pss_nil)
    (pss_one (ps_ret pe_int)))), ?_⟩
  have ne : d ≠ B := Box.ne hB hd
  refine ⟨_, rfl, B, _, 1, _, rfl, rfl, SqL.of hB, atI_nat (j := 1) rfl, ?_⟩
  refine ⟨_, rfl, _, _, rfl, rfl, _, rfl, B, _, 1, 1, rfl, rfl, hB, rfl, ?_⟩
  have hB' : upd H B (.lst [.ref d, .int (i + 1)]) B = some (.lst [.ref d, .int (i + 1)]) := upd_same
  have hd' : upd H B (.lst [.ref d, .int (i + 1)]) d = some (.lst (ds.map V.int)) := by rw [upd_ne ne]; exact hd
  have hb : Box (upd H B (.lst [.ref d, .int (i + 1)])) B d := ⟨ds, i + 1, hB', hd', by omega⟩
  refine ⟨_, rfl, _, rfl, B, _, 0, _, rfl, rfl, SqL.of hB', atI_nat (j := 0) rfl, d, _, rfl, .inl (SqL.of hd'), _, _, rfl, rfl, _, rfl, ?_⟩
  refine ite2 (fun c => ?_) (fun c => ?_)
  · have c' := of_decide_eq_true c
    rw [List.length_map] at c'
    have hk : i.toNat < ds.length := by omega
    refine ⟨_, rfl, B, _, 0, _, rfl, rfl, SqL.of hB', atI_nat (j := 0) rfl, _, rfl, d, _, i, .int ds[i.toNat], rfl, rfl, SqL.of hd', at_of (j := i.toNat) (by omega) (by rw [List.getElem?_map, List.getElem?_eq_getElem hk] <;> rfl), .inl ⟨_, rfl, _, rfl, _, _, rfl, rfl, h0, ?_⟩⟩
    exact q _ _ (Int.emod_nonneg _ (by omega)) (Int.emod_lt_of_pos _ h0) (Go.box B H _) hb
  · exact q 0 _ (by omega) h0 (Go.box B H _) hb
theorem pick {α : Type} {l : List α} {g : α → V} {z : Int} (h0 : 0 ≤ z) (h : z < (l.length : Int)) : ∃ x, x ∈ l ∧ atI (l.map g) z = some (g x) := by
  have hk : z.toNat < l.length := by omega
  exact ⟨l[z.toNat], List.getElem_mem hk, at_of (j := z.toNat) (by omega) (by rw [List.getElem?_map, List.getElem?_eq_getElem hk] <;> rfl)⟩
end
end Mw

namespace Mw
open PySem L2
theorem sz_line {n : Nat} (h : n < 10000000) : n < sizeLine := Nat.lt_of_lt_of_le h (by decide)
theorem le_line {n : Nat} (h : n < 10000000) : n ≤ sizeLine := Nat.le_of_lt (sz_line h)
/-! ### lists of the heap beside lists -/
def A2 {α : Type} (R : α → V → Prop) : List α → List V → Prop
  | [], vs => vs = []
  | x :: xs, vs => ∃ v ws, vs = v :: ws ∧ R x v ∧ A2 R xs ws
theorem A2.mono {α : Type} {R S : α → V → Prop} (h : ∀ x v, R x v → S x v) : ∀ {xs : List α} {vs : List V}, A2 R xs vs → A2 S xs vs
  | [], _, e => e
  | x :: xs, _, e => by
    obtain ⟨v, ws, rfl, h1, h2⟩ := e
    exact ⟨v, ws, rfl, h _ _ h1, A2.mono h h2⟩
theorem A2.length {α : Type} {R : α → V → Prop} : ∀ {xs : List α} {vs : List V}, A2 R xs vs → vs.length = xs.length
  | [], _, e => by rw [show _ = [] from e]; rfl
  | x :: xs, _, e => by
    obtain ⟨v, ws, rfl, _, h2⟩ := e
    exact congrArg (· + 1) h2.length
theorem A2.get {α : Type} {R : α → V → Prop} : ∀ {xs : List α} {vs : List V} {i : Nat} {v : V}, A2 R xs vs → vs[i]? = some v → ∃ x, xs[i]? = some x ∧ R x v
  | [], _, i, v, h, e => by
    rw [show _ = [] from h] at e
    simp at e
  | x :: xs, _, 0, v, h, e => by
    obtain ⟨y, ws, rfl, h1, h2⟩ := h
    have : y = v := by simpa using e
    subst this
    exact ⟨x, rfl, h1⟩
  | x :: xs, _, i + 1, v, h, e => by
    obtain ⟨y, ws, rfl, h1, h2⟩ := h
    obtain ⟨x', e1, e2⟩ := A2.get (i := i) h2 (by simpa using e)
    exact ⟨x', by simpa using e1, e2⟩
theorem A2.app {α : Type} {R : α → V → Prop} {ys : List α} {us : List V} (h' : A2 R ys us) : ∀ {xs : List α} {vs : List V}, A2 R xs vs → A2 R (xs ++ ys) (vs ++ us)
  | [], _, e => by rw [show _ = [] from e]; exact h'
  | x :: xs, _, e => by
    obtain ⟨v, ws, rfl, h1, h2⟩ := e
    exact ⟨v, ws ++ us, rfl, h1, A2.app h' h2⟩
theorem A2.one {α : Type} {R : α → V → Prop} {x : α} {v : V} (h : R x v) : A2 R [x] [v] := ⟨v, [], rfl, h, rfl⟩
theorem A2.snoc {α : Type} {R : α → V → Prop} {xs : List α} {vs : List V} {x : α} {v : V} (h' : A2 R xs vs) (h : R x v) : A2 R (xs ++ [x]) (vs ++ [v]) := A2.app (A2.one h) h'
/-- a list at v, its items beside xs -/
def Ls {α : Type} (R : Hp → α → V → Prop) (H : Hp) (xs : List α) (v : V) : Prop := ∃ r vs, v = .ref r ∧ H r = some (.lst vs) ∧ A2 (R H) xs vs ∧ vs.length < 100000
theorem Ls.same {α : Type} {R : Hp → α → V → Prop} (m : ∀ {H H' : Hp}, Same H H' → ∀ x v, R H x v → R H' x v) {H H' : Hp} (s : Same H H') {xs : List α} {v : V} (h : Ls R H xs v) : Ls R H' xs v := by
  obtain ⟨r, vs, e, h1, h2, h3⟩ := h
  exact ⟨r, vs, e, s _ _ h1, h2.mono (m s), h3⟩
abbrev Rg := Int × Int
abbrev Rel := Int × Bool × List Rg
def RgAt (H : Hp) (x : Rg) (v : V) : Prop := ∃ p, v = .ref p ∧ H p = some (.tup [.int x.1, .int x.2])
def RelAt (H : Hp) (x : Rel) (v : V) : Prop := ∃ p q, v = .ref p ∧ H p = some (.tup [.int x.1, .bl x.2.1, q]) ∧ Ls RgAt H x.2.2 q ∧ 0 ≤ x.1
theorem RgAt.same {H H' : Hp} (s : Same H H') (x : Rg) (v : V) (h : RgAt H x v) : RgAt H' x v := by
  obtain ⟨p, e, h1⟩ := h
  exact ⟨p, e, s _ _ h1⟩
theorem RelAt.same {H H' : Hp} (s : Same H H') (x : Rel) (v : V) (h : RelAt H x v) : RelAt H' x v := by
  obtain ⟨p, q, e, h1, h2, h3⟩ := h
  exact ⟨p, q, e, s _ _ h1, h2.same RgAt.same s, h3⟩
abbrev RowAt (H : Hp) (x : List Rel) (v : V) : Prop := Ls RelAt H x v
theorem RowAt.same {H H' : Hp} (s : Same H H') (x : List Rel) (v : V) (h : RowAt H x v) : RowAt H' x v := Ls.same RelAt.same s h
abbrev ConAt (H : Hp) (x : List (List Rel)) (v : V) : Prop := Ls RowAt H x v
theorem ConAt.same {H H' : Hp} (s : Same H H') (x : List (List Rel)) (v : V) (h : ConAt H x v) : ConAt H' x v := Ls.same RowAt.same s h
abbrev Rule := Str × List (List Rel)
def RuAt (H : Hp) (x : Rule) (v : V) : Prop := ∃ p q, v = .ref p ∧ H p = some (.tup [.str x.1, q]) ∧ ConAt H x.2 q
theorem RuAt.same {H H' : Hp} (s : Same H H') (x : Rule) (v : V) (h : RuAt H x v) : RuAt H' x v := by
  obtain ⟨p, q, e, h1, h2⟩ := h
  exact ⟨p, q, e, s _ _ h1, h2.same s⟩
abbrev RusAt (H : Hp) (x : List Rule) (v : V) : Prop := Ls RuAt H x v
theorem RusAt.same {H H' : Hp} (s : Same H H') (x : List Rule) (v : V) (h : RusAt H x v) : RusAt H' x v := Ls.same RuAt.same s h
/-! ### what the law's languages are -/
def RgOk (r : Rg) : Prop := 0 ≤ r.1 ∧ r.1 ≤ r.2 ∧ r.2 ≤ 20
def RelOk (x : Rel) : Prop := (x.1 = 0 ∨ (2 ≤ x.1 ∧ x.1 ≤ 100)) ∧ x.2.2 ≠ [] ∧ x.2.2.length ≤ 3 ∧ ∀ r ∈ x.2.2, RgOk r
def ConOk (c : List (List Rel)) : Prop := c ≠ [] ∧ c.length ≤ 2 ∧ ∀ r ∈ c, r ≠ [] ∧ r.length ≤ 2 ∧ ∀ x ∈ r, RelOk x
def cats : List Str := ["zero", "one", "two", "few", "many"]
def LanOk (rs : List Rule) : Prop := (rs.map (·.1)).Sublist cats ∧ ∀ r ∈ rs, ConOk r.2
/-! ### what holds for a number -/
def rgB (n : Int) (r : Rg) : Bool := decide (r.1 ≤ n) && decide (n ≤ r.2)
def lookN (m n : Int) : Int := if m = 0 then n else n % m
def relB (n : Int) (x : Rel) : Bool := x.2.1 == x.2.2.any (rgB (lookN x.1 n))
def conB (n : Int) (c : List (List Rel)) : Bool := c.any fun row => row.all (relB n)
def catB (n : Int) : List Rule → Str
  | [] => "other"
  | r :: rs => if conB n r.2 then r.1 else catB n rs
def catN (rs : List Rule) (n : Int) : Str := if n < 0 then "other" else catB n rs
theorem take_map {α β : Type} {xs : List α} {i : Nat} {x : α} (g : α → β) (h : xs[i]? = some x) : (xs.take (i + 1)).map g = (xs.take i).map g ++ [g x] := by
  rw [List.take_succ, h, List.map_append]
  rfl
theorem get_lt {α : Type} {xs : List α} {i : Nat} {x : α} (h : xs[i]? = some x) : i < xs.length := (List.getElem?_eq_some_iff.mp h).1
end Mw

namespace Mw
open PySem L2
/-- what the row says of the class Language -/
structure LC (K : PySem.W.Frag) (C : Addr) : Prop where
  c : Cls K C
  nr : NoAttr K C "rules"
/-- a language at v -/
def LanAt (C : Addr) (H : Hp) (rs : List Rule) (v : V) : Prop := ∃ o dx q, v = .ref o ∧ H o = some (.ins C dx [("rules", q)]) ∧ RusAt H rs q
theorem LanAt.same {C : Addr} {H H' : Hp} (s : Same H H') {rs : List Rule} {v : V} (h : LanAt C H rs v) : LanAt C H' rs v := by
  obtain ⟨o, dx, q, e, h1, h2⟩ := h
  exact ⟨o, dx, q, e, s _ _ h1, h2.same s⟩
end Mw

namespace Mw
open PySem L2
theorem fr_new_obj {H0 H : Hp} {p : Addr} {o : HO} (h0 : H0 p = none) (h : H p = some o) : fr H0 H p = some o := by rw [fr_new h0]; exact h
section
variable {P : Program} {w : World} {K : PySem.W.Frag} {mg : Str → Option Value} {base : Heap} {C : Addr}
/-! ### _law_relation -/
abbrev sLr : Stmt := top 28
abbrev nLr : List Str := ["box", "modulus", "ranges", "turn", "low"]
theorem scLr : FnScope nLr ["box"] (defScope sLr) := ⟨rfl, rfl, rfl, by decide +kernel, rfl, by decide +kernel, by decide +kernel⟩
def spLr : Sp := fun vs H Q _ => ∃ (B d : Addr), vs = [.ref B] ∧ Box H B d ∧ ∀ v x H', Go B H H' → Box H' B d → RelAt (fr H H') x v → RelOk x → Q v H'
theorem ok_lr {f fD : Addr} {fd fdD : FuncData} (F : Fun K "_law_relation" "_law_relation" sLr f fd)
    (GD : FnOk P w K mg base CX0 1 fD fdD ["box", "many"] spDraw) (bD : Binds K fdD ["box", "many"] []) (kD : PySem.W.keepIn K (.ref fD) = true) (mD : mg "_law_draw" = some (.ref fD))
    (mr : mg "range" = none) (mi : mg "int" = none) :
    FnOk P w K mg base CX0 2 f fd ["box"] spLr := by
  refine F.ok scLr (fun vs H Q E h => ?_) (fun cdv A outer s H vs Q E hr h => ?_)
  · obtain ⟨B, d, rfl, _⟩ := h
    rfl
  obtain ⟨B, d, rfl, hb, q⟩ := h
  have nd := scLr.nd
  refine ⟨_, pss_cons (ps_set (i := 1) nd rfl (.inl rfl) (pe_ix ix_list (pe_lst (pa_cons pe_int (pa_cons pe_int (pa_cons pe_int (pa_cons pe_int (pa_cons pe_int (pa_cons pe_int (pa_cons pe_int pa_nil))))))))
      (pe_call GD hr rfl mD kD bD .nil pass0 (pa_cons (pv 0) (pa_cons pe_int pa_nil))) (fun _ _ => rfl)))
    (pss_cons (ps_set (i := 2) nd rfl (.inl rfl) (pe_lst pa_nil))
    (pss_cons (ps_for PassesOwn.never rfl (pi_range1 rfl mr (pa_cons (pe_op op_add pe_int (pe_call GD hr rfl mD kD bD .nil pass0 (pa_cons (pv 0) (pa_cons pe_int pa_nil)))) pa_nil)) (pg_name (i := 3) nd rfl (.inl rfl))
      (pss_cons (ps_set (i := 4) nd rfl (.inl rfl) (pe_call GD hr rfl mD kD bD .nil pass0 (pa_cons (pv 0) (pa_cons
          (pe_ix ix_list (pe_lst (pa_cons pe_int (pa_cons pe_int pa_nil))) (pe_callTy call_int1 (by rfl) mi (by decide +kernel) (pa_cons (pe_cmpR op_in_seq (pv 1) (pe_tup (pa_cons pe_int (pa_cons pe_int (pa_cons pe_int pa_nil)))) (by rfl)) pa_nil)) (fun _ _ => rfl)) pa_nil))))
      (pss_one (ps_expr (pe_bm PySem.F.plainAttrs_list PySem.F.slot_list_append PySem.F.type_list_append mt_append (pv 2) (pa_cons
          (pe_tup (pa_cons (pv 4) (pa_cons (pe_op op_add (pv 4) (pe_ix ix_list (pe_lst (pa_cons pe_int (pa_cons pe_int (pa_cons pe_int (pa_cons pe_int pa_nil))))) (pe_call GD hr rfl mD kD bD .nil pass0 (pa_cons (pv 0) (pa_cons pe_int pa_nil))) (fun _ _ => rfl))) pa_nil))) pa_nil))))))
    (pss_one (ps_ret (pe_tup (pa_cons (pv 1) (pa_cons (pe_cmpR op_gt (pe_call GD hr rfl mD kD bD .nil pass0 (pa_cons (pv 0) (pa_cons pe_int pa_nil))) pe_int (nomark _)) (pa_cons (pv 2) pa_nil)))))))), ?_⟩
  refine ⟨by show 7 ≤ sizeLine; decide, fun l hl => ?_⟩
  have lB := hb.neB hl
  refine ⟨_, rfl, B, d, 7, rfl, by decide, hb.new hl _, fun z H2 z0 z1 g2 b2 => ?_⟩
  obtain ⟨m, hm, hat⟩ := pick (l := ([0, 0, 2, 3, 4, 10, 100] : List Int)) (g := V.int) (z := z) z0 (by show z < ((7 : Nat) : Int); omega)
  have hm0 : 0 ≤ m := (by decide : ∀ m ∈ ([0, 0, 2, 3, 4, 10, 100] : List Int), 0 ≤ m) m hm
  have hmk : m = 0 ∨ (2 ≤ m ∧ m ≤ 100) := (by decide : ∀ m ∈ ([0, 0, 2, 3, 4, 10, 100] : List Int), m = 0 ∨ (2 ≤ m ∧ m ≤ 100)) m hm
  refine ⟨l, _, z, .int m, rfl, rfl, SqL.of (g2.ext _ _ lB upd_same), hat, ?_⟩
  have G02 : Go B H H2 := (Go.new hl _).trans g2
  refine ⟨Nat.zero_le _, fun rl hrl => ?_⟩
  have rB := b2.neB hrl
  have hrl0 : H rl = none := G02.dom rl hrl
  generalize hH3 : upd H2 rl (.lst []) = H3
  have hrl3 : H3 rl = some (.lst []) := by rw [← hH3]; exact upd_same
  have b3 : Box H3 B d := by rw [← hH3]; exact b2.new hrl _
  have G03 : Go B H H3 := by rw [← hH3]; exact G02.trans (Go.new hrl _)
  obtain ⟨ob3, hB3⟩ := b3.isB
  refine ⟨_, rfl, B, d, 3, rfl, by decide, b3, fun y H4 y0 y3 g4 b4 => ⟨_, _, rfl, rfl, ?_⟩⟩
  refine ⟨1 + y, rfl, by omega, by omega, for_range (lo := 0) (n := (1 + y).toNat) (fun i σ H' => ∃ (rs : List Rg) (vs : List V) (o3 o4 : Option V), σ = [some (.ref B), some (.int m), some (.ref rl), o3, o4] ∧ Go B H H' ∧ (∀ b, H' b = none → H3 b = none) ∧ Box H' B d ∧ H' rl = some (.lst vs) ∧ A2 (RgAt (fr H3 H')) rs vs ∧ vs.length = i ∧ ∀ r ∈ rs, RgOk r)
    ⟨[], [], _, _, rfl, G03.trans g4, g4.dom, b4, g4.ext _ _ rB hrl3, rfl, rfl, fun r h => by cases h⟩ ?_ ?_⟩
  · rintro i σ H5 hi ⟨rs, vs, o3, o4, rfl, g5, dm, b5, hrl5, ha5, hlen, hok⟩
    refine ⟨_, rfl, by show 2 ≤ sizeLine; decide, fun l2 hl2 => ?_⟩
    have l2B := b5.neB hl2
    have b6 := b5.new hl2 (.lst [.int 12, .int 4])
    have e6 := Go.new (B := B) hl2 (.lst [.int 12, .int 4])
    refine ⟨_, rfl, by show 3 ≤ sizeLine; decide, fun t2 ht2 => ?_⟩
    have b7 := b6.new ht2 (.tup [.int 2, .int 3, .int 4])
    have e7 := Go.new (B := B) ht2 (.tup [.int 2, .int 3, .int 4])
    refine ⟨t2, _, rfl, .inr (.inl (.inl upd_same)), rfl, rfl, .inr ⟨_, rfl, ?_⟩⟩
    have pickb : ∀ k : Bool, ∃ y, y ∈ ([12, 4] : List Int) ∧ atI (([12, 4] : List Int).map V.int) (if k then 1 else 0) = some (.int y) := fun k => by
      cases k
      · exact ⟨12, by decide, rfl⟩
      · exact ⟨4, by decide, rfl⟩
    obtain ⟨y2, hy2, hat2⟩ := pickb (inV (V.int m) [.int 2, .int 3, .int 4])
    have hy20 : 0 < y2 := (by decide : ∀ m ∈ ([12, 4] : List Int), 0 < m) y2 hy2
    have hy21 : y2 ≤ 12 := (by decide : ∀ m ∈ ([12, 4] : List Int), m ≤ 12) y2 hy2
    refine ⟨l2, _, _, .int y2, rfl, rfl, SqL.of (e7.ext _ _ l2B upd_same), hat2, ?_⟩
    refine ⟨B, d, y2, rfl, hy20, b7, fun lo H8 lo0 lo1 g8 b8 => ?_⟩
    have G58 := (e6.trans e7).trans g8
    have hrl8 := G58.ext _ _ rB hrl5
    refine ⟨_, rfl, .inl ⟨rfl, _, SqL.of hrl8⟩, _, rfl, _, rfl, by show 4 ≤ sizeLine; decide, fun l4 hl4 => ?_⟩
    have l4B := b8.neB hl4
    have b9 := b8.new hl4 (.lst [.int 0, .int 0, .int 1, .int 3])
    have e9 := Go.new (B := B) hl4 (.lst [.int 0, .int 0, .int 1, .int 3])
    refine ⟨_, rfl, B, d, 4, rfl, by decide, b9, fun u HA u0 u1 gA bA => ?_⟩
    obtain ⟨x4, hx4, hat4⟩ := pick (l := ([0, 0, 1, 3] : List Int)) (g := V.int) (z := u) u0 (by show u < ((4 : Nat) : Int); omega)
    have hx5 : 0 ≤ x4 ∧ x4 ≤ 3 := (by decide : ∀ m ∈ ([0, 0, 1, 3] : List Int), 0 ≤ m ∧ m ≤ 3) x4 hx4
    refine ⟨l4, _, u, .int x4, rfl, rfl, SqL.of (gA.ext _ _ l4B upd_same), hat4, _, _, rfl, rfl, by show 2 ≤ sizeLine; decide, fun p hp => ?_⟩
    have G5A := (G58.trans e9).trans gA
    have eB := Go.new (B := B) hp (.tup [.int lo, .int (lo + x4)])
    have G5B := G5A.trans eB
    have hrlB := G5B.ext _ _ rB hrl5
    have bB := bA.new hp (.tup [.int lo, .int (lo + x4)])
    have hrd : rl ≠ d := b2.neD hrl
    have h3p : H3 p = none := dm p (G5A.dom p hp)
    have prl : p ≠ rl := by rintro rfl; rw [hrl3] at h3p; cases h3p
    refine ⟨rl, vs, _, rfl, rfl, hrlB, sz_line (by omega), rs ++ [(lo, lo + x4)], _, _, _, rfl, (g5.trans G5B).mut hrl0 _, fun b hb => dm b (G5B.dom b (upd_none hb)), bB.mut rB hrd _, upd_same, ?_, by rw [List.length_append, hlen]; rfl, fun r hr => (List.mem_append.mp hr).elim (hok r) fun h => List.mem_singleton.mp h ▸ ⟨lo0, by show lo ≤ lo + x4; omega, by show lo + x4 ≤ 20; omega⟩⟩
    refine A2.snoc (ha5.mono fun x v h => ?_) ⟨p, rfl, fr_new_obj h3p (by rw [upd_ne prl]; exact upd_same)⟩
    exact RgAt.same ((fr_go hB3 G5B).trans (fr_mut hrl3 _)) x v h
  · rintro σ H5 ⟨rs, vs, o3, o4, rfl, g5, dm, b5, hrl5, ha5, hlen, hok⟩
    have G0e := g5
    obtain ⟨ob, hB0⟩ := hb.isB
    refine ⟨_, rfl, _, rfl, B, d, 3, rfl, by decide, b5, fun u H6 u0 u3 g6 b6 => ⟨_, _, rfl, rfl, _, rfl, by show 3 ≤ sizeLine; decide, fun p hp => ?_⟩⟩
    have G6 := g6.trans (Go.new (B := B) hp (.tup [.int m, .bl (decide (0 < u)), .ref rl]))
    refine q (.ref p) (m, decide (0 < u), rs) _ (G0e.trans G6) (b6.new hp _) ⟨p, .ref rl, rfl, fr_new_obj ((G0e.trans g6).dom p hp) upd_same, ⟨rl, vs, rfl, fr_new_obj hrl0 (G6.ext _ _ rB hrl5), ha5.mono fun x v h => ?_, by omega⟩, hm0⟩ ⟨hmk, fun e => ?_, ?_, hok⟩
    · exact RgAt.same ((fr_dom G03.dom).trans (fr_go (B := B) hB0 G6)) x v h
    · have h1 := ha5.length
      have e : rs = [] := e
      rw [e, hlen] at h1
      simp at h1
      omega
    · have h1 := ha5.length
      show rs.length ≤ 3
      omega
end
end Mw

namespace Mw
open PySem L2
section
variable {P : Program} {w : World} {K : PySem.W.Frag} {mg : Str → Option Value} {base : Heap} {C : Addr}
/-! ### _law_condition -/
abbrev sLn : Stmt := top 29
abbrev nLn : List Str := ["box", "rows", "turn", "k"]
theorem scLn : FnScope nLn ["box"] (defScope sLn) := ⟨rfl, rfl, rfl, by decide +kernel, rfl, by decide +kernel, by decide +kernel⟩
def spLn : Sp := fun vs H Q _ => ∃ (B d : Addr), vs = [.ref B] ∧ Box H B d ∧ ∀ v x H', Go B H H' → Box H' B d → ConAt (fr H H') x v → ConOk x → Q v H'
theorem ok_ln {f fD fR : Addr} {fd fdD fdR : FuncData} (F : Fun K "_law_condition" "_law_condition" sLn f fd)
    (GD : FnOk P w K mg base CX0 1 fD fdD ["box", "many"] spDraw) (bD : Binds K fdD ["box", "many"] []) (kD : PySem.W.keepIn K (.ref fD) = true) (mD : mg "_law_draw" = some (.ref fD))
    (GR : FnOk P w K mg base CX0 2 fR fdR ["box"] spLr) (bR : Binds K fdR ["box"] []) (kR : PySem.W.keepIn K (.ref fR) = true) (mR : mg "_law_relation" = some (.ref fR))
    (mr : mg "range" = none) :
    FnOk P w K mg base CX0 3 f fd ["box"] spLn := by
  refine F.ok scLn (fun vs H Q E h => ?_) (fun cdv A outer s H vs Q E hr h => ?_)
  · obtain ⟨B, d, rfl, _⟩ := h
    rfl
  obtain ⟨B, d, rfl, hb, q⟩ := h
  have nd := scLn.nd
  refine ⟨_, pss_cons (ps_set (i := 1) nd rfl (.inl rfl) (pe_lst pa_nil))
    (pss_cons (ps_for PassesOwn.never rfl (pi_range1 rfl mr (pa_cons (pe_op op_add pe_int (pe_call GD (hr.mono (by decide)) rfl mD kD bD .nil pass0 (pa_cons (pv 0) (pa_cons pe_int pa_nil)))) pa_nil)) (pg_name (i := 2) nd rfl (.inl rfl))
      (pss_one (ps_expr (pe_bm PySem.F.plainAttrs_list PySem.F.slot_list_append PySem.F.type_list_append mt_append (pv 1) (pa_cons
          (pe_lc (own := [("k", 3)]) (g := gName 3) (tt := tYes) (te := tCall spLr [] E0 (tCons (tVar 0) tNil)) rfl nd (pi_range1 rfl mr (pa_cons (pe_op op_add pe_int (pe_call GD (hr.mono (by decide)) rfl mD kD bD .nil pass0 (pa_cons (pv 0) (pa_cons pe_int pa_nil)))) pa_nil)) (blkOk_by (N := nLn) (sc := defScope sLn) (by decide +kernel))
            (fun _ _ _ _ _ => pg_name (i := 3) nd rfl (.inl rfl)) (fun _ _ _ _ _ => pts_nil)
            (fun _ _ _ _ _ => pe_call GR hr rfl mR kR bR .nil pass0 (pa_cons (pv 0) pa_nil))) pa_nil)))))
    (pss_one (ps_ret (pv 1)))), ?_⟩
  refine ⟨Nat.zero_le _, fun rl hrl => ?_⟩
  have rB := hb.neB hrl
  have rd := hb.neD hrl
  generalize hH3 : upd H rl (.lst []) = H3
  have hrl3 : H3 rl = some (.lst []) := by rw [← hH3]; exact upd_same
  have b3 : Box H3 B d := by rw [← hH3]; exact hb.new hrl _
  have G03 : Go B H H3 := by rw [← hH3]; exact Go.new hrl _
  obtain ⟨ob3, hB3⟩ := b3.isB
  obtain ⟨ob, hB0⟩ := hb.isB
  refine ⟨_, rfl, B, d, 2, rfl, by decide, b3, fun y H4 y0 y3 g4 b4 => ⟨_, _, rfl, rfl, ?_⟩⟩
  refine ⟨1 + y, rfl, by omega, by omega, for_range (lo := 0) (n := (1 + y).toNat) (fun i σ H' => ∃ (x : List (List Rel)) (vs : List V) (o2 o3 : Option V), σ = [some (.ref B), some (.ref rl), o2, o3] ∧ Go B H H' ∧ (∀ b, H' b = none → H3 b = none) ∧ Box H' B d ∧ H' rl = some (.lst vs) ∧ A2 (RowAt (fr H3 H')) x vs ∧ vs.length = i ∧ ∀ r ∈ x, r ≠ [] ∧ r.length ≤ 2 ∧ ∀ z ∈ r, RelOk z)
    ⟨[], [], _, _, rfl, G03.trans g4, g4.dom, b4, g4.ext _ _ rB hrl3, rfl, rfl, fun r h => by cases h⟩ ?_ ?_⟩
  · rintro i σ H5 hi ⟨x, vs, o2, o3, rfl, g5, dm, b5, hrl5, ha5, hlen, hne⟩
    refine ⟨_, rfl, .inl ⟨rfl, _, SqL.of hrl5⟩, ?_⟩
    refine ⟨_, rfl, B, d, 2, rfl, by decide, b5, fun u H6 u0 u2 g6 b6 => ⟨_, _, rfl, rfl, ?_⟩⟩
    refine ⟨1 + u, rfl, by omega, by omega, fun D hD => ?_⟩
    have DB := b6.neB hD
    have Dd := b6.neD hD
    have DH3 : H3 D = none := dm D (g6.dom D hD)
    have hrl6 := g6.ext _ _ rB hrl5
    have Drl : D ≠ rl := (ne_of_none hrl6 hD).symm
    generalize hH7 : upd H6 D (.lst []) = H7
    have hD7 : H7 D = some (.lst []) := by rw [← hH7]; exact upd_same
    have b7 : Box H7 B d := by rw [← hH7]; exact b6.new hD _
    have G67 : Go B H6 H7 := by rw [← hH7]; exact Go.new hD _
    have h7none : ∀ b, H7 b = none → H3 b = none := fun b hb => dm b (g6.dom b (G67.dom b hb))
    rw [← hH7]
    refine lc_range (lo := 0) (n := (1 + u).toNat) (fun j H' => ∃ (r : List Rel) (ws : List V), Go B H6 H' ∧ (∀ b, H' b = none → H7 b = none) ∧ Box H' B d ∧ H' D = some (.lst ws) ∧ A2 (RelAt (fr H7 H')) r ws ∧ ws.length = j ∧ ∀ z ∈ r, RelOk z) ⟨[], [], by rw [hH7]; exact G67, by rw [hH7]; exact fun _ h => h, by rw [hH7]; exact b7, by rw [hH7]; exact hD7, rfl, rfl, fun z h => by cases h⟩ ?_ ?_
    · rintro j H8 hj ⟨r, ws, g8, dm8, b8, hD8, ha8, hl8, hz8⟩
      refine ⟨rfl, _, rfl, B, d, rfl, b8, fun v z H9 g9 b9 hz hzo => ?_⟩
      have hD9 := g9.ext _ _ DB hD8
      obtain ⟨ob7, hB7⟩ := b7.isB
      refine ⟨ws, hD9, sz_line (by omega), r ++ [z], ws ++ [v], (g8.trans g9).mut hD _, fun b hb => dm8 b (g9.dom b (upd_none hb)), b9.mut DB Dd _, upd_same, ?_, by rw [List.length_append, hl8]; rfl, fun z' hz' => (List.mem_append.mp hz').elim (hz8 z') fun h => List.mem_singleton.mp h ▸ hzo⟩
      refine A2.snoc (ha8.mono fun x v h => RelAt.same ((fr_go hB7 g9).trans (fr_mut hD7 _)) x v h) ?_
      exact RelAt.same ((fr_dom dm8).trans (fr_mut hD7 _)) z v hz
    · rintro H8 ⟨r, ws, g8, dm8, b8, hD8, ha8, hl8, hz8⟩
      have G58 := g6.trans g8
      have hrl8 := G58.ext _ _ rB hrl5
      refine ⟨rl, vs, _, rfl, rfl, hrl8, sz_line (by omega), x ++ [r], vs ++ [.ref D], _, _, rfl, (g5.trans G58).mut hrl _, fun b hb => dm b (G58.dom b (upd_none hb)), b8.mut rB rd _, upd_same, ?_, by rw [List.length_append, hlen]; rfl, ?_⟩
      · refine A2.snoc (ha5.mono fun x v h => RowAt.same ((fr_go hB3 G58).trans (fr_mut hrl3 _)) x v h) ?_
        refine ⟨D, ws, rfl, fr_new_obj DH3 (by rw [upd_ne Drl]; exact hD8), ha8.mono fun x v h => ?_, by omega⟩
        exact RelAt.same ((fr_dom h7none).trans (fr_mut hrl3 _)) x v h
      · intro r' hr'
        rcases List.mem_append.mp hr' with h | h
        · exact hne r' h
        · rw [List.mem_singleton] at h
          subst h
          have h1 := ha8.length
          refine ⟨fun e => ?_, by omega, hz8⟩
          rw [e, hl8] at h1
          simp at h1
          omega
  · rintro σ H5 ⟨x, vs, o2, o3, rfl, g5, dm, b5, hrl5, ha5, hlen, hne⟩
    refine ⟨_, rfl, q (.ref rl) x H5 g5 b5 ⟨rl, vs, rfl, fr_new_obj hrl hrl5, ha5.mono fun x v h => RowAt.same (fr_dom G03.dom) x v h, by omega⟩ ⟨fun e => ?_, ?_, hne⟩⟩
    · have h1 := ha5.length
      rw [e, hlen] at h1
      simp at h1
      omega
    · have h1 := ha5.length
      omega
end
end Mw

namespace Mw
open PySem L2
section
variable {P : Program} {w : World} {K : PySem.W.Frag} {mg : Str → Option Value} {base : Heap} {C : Addr}
/-! ### _law_rules -/
abbrev sLu : Stmt := top 30
abbrev nLu : List Str := ["box", "rules", "category"]
theorem scLu : FnScope nLu ["box"] (defScope sLu) := ⟨rfl, rfl, rfl, by decide +kernel, rfl, by decide +kernel, by decide +kernel⟩
def spLu : Sp := fun vs H Q _ => ∃ (B d : Addr), vs = [.ref B] ∧ Box H B d ∧ ∀ v x H', Go B H H' → Box H' B d → RusAt (fr H H') x v → LanOk x → Q v H'
theorem ok_lu {f fD fR : Addr} {fd fdD fdR : FuncData} (F : Fun K "_law_rules" "_law_rules" sLu f fd)
    (GD : FnOk P w K mg base CX0 1 fD fdD ["box", "many"] spDraw) (bD : Binds K fdD ["box", "many"] []) (kD : PySem.W.keepIn K (.ref fD) = true) (mD : mg "_law_draw" = some (.ref fD))
    (GR : FnOk P w K mg base CX0 3 fR fdR ["box"] spLn) (bR : Binds K fdR ["box"] []) (kR : PySem.W.keepIn K (.ref fR) = true) (mR : mg "_law_condition" = some (.ref fR)) :
    FnOk P w K mg base CX0 4 f fd ["box"] spLu := by
  refine F.ok scLu (fun vs H Q E h => ?_) (fun cdv A outer s H vs Q E hr h => ?_)
  · obtain ⟨B, d, rfl, _⟩ := h
    rfl
  obtain ⟨B, d, rfl, hb, q⟩ := h
  have nd := scLu.nd
  refine ⟨_, pss_cons (ps_set (i := 1) nd rfl (.inl rfl) (pe_lst pa_nil))
    (pss_cons (ps_for PassesOwn.never rfl (pi_list (pe_lst (pa_cons pe_str (pa_cons pe_str (pa_cons pe_str (pa_cons pe_str (pa_cons pe_str pa_nil))))))) (pg_name (i := 2) nd rfl (.inl rfl))
      (pss_one (ps_if (pt_cmpR op_eq (pe_call GD (hr.mono (by decide)) rfl mD kD bD .nil pass0 (pa_cons (pv 0) (pa_cons pe_int pa_nil))) pe_int (nomark _))
        (pss_one (ps_expr (pe_bm PySem.F.plainAttrs_list PySem.F.slot_list_append PySem.F.type_list_append mt_append (pv 1) (pa_cons
          (pe_tup (pa_cons (pv 2) (pa_cons (pe_call GR hr rfl mR kR bR .nil pass0 (pa_cons (pv 0) pa_nil)) pa_nil))) pa_nil)))) pss_nil)))
    (pss_one (ps_ret (pv 1)))), ?_⟩
  refine ⟨Nat.zero_le _, fun rl hrl => ?_⟩
  have rB := hb.neB hrl
  have rd := hb.neD hrl
  generalize hH3 : upd H rl (.lst []) = H3
  have hrl3 : H3 rl = some (.lst []) := by rw [← hH3]; exact upd_same
  have b3 : Box H3 B d := by rw [← hH3]; exact hb.new hrl _
  have G03 : Go B H H3 := by rw [← hH3]; exact Go.new hrl _
  obtain ⟨ob3, hB3⟩ := b3.isB
  refine ⟨by show 5 ≤ sizeLine; decide, fun l hl => ?_⟩
  have lB := b3.neB hl
  have lrl : l ≠ rl := (ne_of_none hrl3 hl).symm
  refine ⟨l, rfl, ⟨_, SqL.of upd_same⟩, ?_⟩
  have G3 := Go.new (B := B) hl (.lst [.str "zero", .str "one", .str "two", .str "few", .str "many"])
  refine for_list (xs := [.str "zero", .str "one", .str "two", .str "few", .str "many"]) (fun i σ H' => ∃ (x : List Rule) (vs : List V) (o2 : Option V), σ = [some (.ref B), some (.ref rl), o2] ∧ Go B H H' ∧ (∀ b, H' b = none → H3 b = none) ∧ Box H' B d ∧ H' rl = some (.lst vs) ∧ A2 (RuAt (fr H3 H')) x vs ∧ vs.length ≤ i ∧ H' l = some (.lst [.str "zero", .str "one", .str "two", .str "few", .str "many"]) ∧ (x.map (·.1)).Sublist (cats.take i) ∧ ∀ r ∈ x, ConOk r.2)
    ⟨[], [], _, rfl, G03.trans G3, G3.dom, b3.new hl _, G3.ext _ _ rB hrl3, rfl, Nat.le_refl _, upd_same, List.nil_sublist _, fun r h => by cases h⟩ (fun i σ H' _ ⟨x, vs, o2, _, _, _, _, _, _, _, e, _⟩ => SqL.of e) ?_ ?_
  · rintro i y σ H5 hx ⟨x, vs, o2, rfl, g5, dm, b5, hrl5, ha5, hlen, hl5, hsub, hco⟩
    have hi : i < 5 := get_lt hx
    have hy : ∃ c, y = V.str c ∧ cats[i]? = some c := by
      have h5 : ([.str "zero", .str "one", .str "two", .str "few", .str "many"] : List V) = cats.map V.str := rfl
      rw [h5, List.getElem?_map] at hx
      cases hc : cats[i]? with
      | none => rw [hc] at hx; cases hx
      | some c => rw [hc] at hx; cases hx; exact ⟨c, rfl, rfl⟩
    obtain ⟨c, rfl, hci⟩ := hy
    have htk : cats.take (i + 1) = cats.take i ++ [c] := by rw [List.take_succ, hci]; rfl
    refine ⟨_, rfl, B, d, 3, rfl, by decide, b5, fun u H6 u0 u2 g6 b6 => ⟨rfl, _, rfl, ?_⟩⟩
    have hrl6 := g6.ext _ _ rB hrl5
    have hl6 := g6.ext _ _ lB hl5
    refine ite2 (fun cc => ?_) (fun cc => ?_)
    · refine ⟨_, rfl, .inl ⟨rfl, _, SqL.of hrl6⟩, _, rfl, _, rfl, B, d, rfl, b6, fun v z H7 g7 b7 hz hzo => ⟨by show 2 ≤ sizeLine; decide, fun p hp => ?_⟩⟩
      have G57 := g6.trans g7
      have eB := Go.new (B := B) hp (.tup [.str c, v])
      have G5 := G57.trans eB
      have h3p : H3 p = none := dm p (G57.dom p hp)
      have prl : p ≠ rl := by rintro rfl; rw [hrl3] at h3p; cases h3p
      obtain ⟨ob6, hB6⟩ := b6.isB
      refine ⟨rl, vs, _, rfl, rfl, G5.ext _ _ rB hrl5, sz_line (by omega), x ++ [(c, z)], _, _, rfl, (g5.trans G5).mut hrl _, fun b hb => dm b (G5.dom b (upd_none hb)), (b7.new hp _).mut rB rd _, upd_same, ?_, by rw [List.length_append]; show vs.length + 1 ≤ i + 1; omega, by rw [upd_ne lrl]; exact G5.ext _ _ lB hl5, by rw [List.map_append, htk]; exact hsub.append (List.Sublist.refl _), fun r hr => (List.mem_append.mp hr).elim (hco r) fun h => List.mem_singleton.mp h ▸ hzo⟩
      refine A2.snoc (ha5.mono fun x v h => RuAt.same ((fr_go hB3 G5).trans (fr_mut hrl3 _)) x v h) ⟨p, v, rfl, fr_new_obj h3p (by rw [upd_ne prl]; exact upd_same), ?_⟩
      exact ConAt.same ((fr_dom fun b hb => dm b (g6.dom b hb)).trans ((fr_go hB3 eB).trans (fr_mut hrl3 _))) z v hz
    · exact ⟨x, vs, _, rfl, g5.trans g6, fun b hb => dm b (g6.dom b hb), b6, hrl6, ha5.mono fun x v h => RuAt.same (fr_go hB3 g6) x v h, by omega, hl6, by rw [htk]; exact hsub.trans (List.sublist_append_left _ _), hco⟩
  · rintro σ H5 ⟨x, vs, o2, rfl, g5, dm, b5, hrl5, ha5, hlen, hl5, hsub, hco⟩
    refine ⟨_, rfl, q (.ref rl) x H5 g5 b5 ⟨rl, vs, rfl, fr_new_obj hrl hrl5, ha5.mono fun x v h => RuAt.same (fr_dom G03.dom) x v h, ?_⟩ ⟨hsub, hco⟩⟩
    have h5 : vs.length ≤ 5 := hlen
    omega
end
end Mw

namespace Mw
open PySem L2
/-! ### a heap without some addresses -/
def hids (L : List Addr) (H : Hp) : Hp := fun a => if a ∈ L then none else H a
theorem hids_ne {L : List Addr} {a : Addr} {H : Hp} (h : a ∉ L) : hids L H a = H a := by
  unfold hids
  rw [if_neg h]
theorem hids_in {L : List Addr} {a : Addr} {H : Hp} {o : HO} (h : hids L H a = some o) : a ∉ L ∧ H a = some o := by
  unfold hids at h
  split at h
  · cases h
  · exact ⟨by assumption, h⟩
theorem hids_same {L : List Addr} {H H1 : Hp} (s : Same H H1) : Same (hids L H) (hids L H1) := fun a o h => by
  obtain ⟨h1, h2⟩ := hids_in h
  rw [hids_ne h1]
  exact s _ _ h2
theorem hids_add {L : List Addr} {l : Addr} {H H1 : Hp} (hl : H l = none) (s : Same H H1) : Same (hids L H) (hids (l :: L) H1) := fun a o h => by
  obtain ⟨h1, h2⟩ := hids_in h
  have ne : a ≠ l := by rintro rfl; rw [hl] at h2; cases h2
  rw [hids_ne (by simp [ne, h1])]
  exact s _ _ h2
theorem hids_mut {L : List Addr} {l : Addr} {H : Hp} (hl : l ∈ L) (o : HO) : Same (hids L H) (hids L (upd H l o)) := fun a u h => by
  obtain ⟨h1, h2⟩ := hids_in h
  have ne : a ≠ l := by rintro rfl; exact h1 hl
  rw [hids_ne h1, upd_ne ne]
  exact h2
theorem hids_drop {L : List Addr} {l : Addr} {H : Hp} : Same (hids (l :: L) H) (hids L H) := fun a u h => by
  obtain ⟨h1, h2⟩ := hids_in h
  rw [hids_ne fun z => h1 (List.mem_cons_of_mem _ z)]
  exact h2
theorem hids_sub {L L' : List Addr} {H : Hp} (h : ∀ a ∈ L', a ∈ L) : Same (hids L H) (hids L' H) := fun a u e => by
  obtain ⟨h1, h2⟩ := hids_in e
  rw [hids_ne fun z => h1 (h a z)]
  exact h2
/-- all of L stand in H -/
def In (L : List Addr) (H : Hp) : Prop := ∀ b ∈ L, ∃ o, H b = some o
theorem In.same {L : List Addr} {H H' : Hp} (s : Same H H') (i : In L H) : In L H' := fun b hb => by
  obtain ⟨o, h⟩ := i b hb
  exact ⟨o, s _ _ h⟩
theorem In.new {L : List Addr} {H : Hp} {p : Addr} (i : In L H) (h : H p = none) : p ∉ L := fun hp => by
  obtain ⟨o, e⟩ := i p hp
  rw [h] at e
  cases e
theorem In.cons {L : List Addr} {H : Hp} {l : Addr} {o : HO} (i : In L H) (h : H l = some o) : In (l :: L) H := fun b hb => by
  rcases List.mem_cons.mp hb with rfl | hb
  · exact ⟨o, h⟩
  · exact i b hb
def rLo (K : PySem.W.Frag) : List V → Hp → VK → Prop := fun xs H Q => ∃ p ys, xs = [.ref p] ∧ (SqL K H p ys ∨ SqT K H p ys) ∧ ∀ l, H l = none → Q (.ref l) (upd H l (.lst ys))
section
variable {P : Program} {w : World} {K : PySem.W.Frag} {mg : Str → Option Value} {base : Heap} {C : Addr}
/-! ### copied -/
abbrev sCd : Stmt := top 11
abbrev nCd : List Str := ["condition", "row", "modulus", "inside", "ranges"]
theorem scCd : FnScope nCd ["condition"] (defScope sCd) := ⟨rfl, rfl, rfl, by decide +kernel, rfl, by decide +kernel, by decide +kernel⟩
def spCd : Sp := fun vs H Q _ => ∃ (v : V) (x : List (List Rel)) (L : List Addr), vs = [v] ∧ In L H ∧ ConAt (hids L H) x v ∧ ∀ v' H', Same H H' → ConAt (hids L H') x v' → Q v' H'
theorem ok_cd {f : Addr} {fd : FuncData} (F : Fun K "copied" "copied" sCd f fd) (ml : mg "list" = none) : FnOk P w K mg base CX0 1 f fd ["condition"] spCd := by
  refine F.ok scCd (fun vs H Q E h => ?_) (fun cdv A outer s H vs Q E hr h => ?_)
  · obtain ⟨v, x, L, rfl, _⟩ := h
    rfl
  obtain ⟨v, x, L, rfl, iL, ⟨r, cvs, rfl, hr1, ha, hl⟩, q⟩ := h
  have nd := scCd.nd
  refine ⟨_, pss_one (ps_ret (pe_lc (own := [("row", 1)]) (g := gName 1) (tt := tYes)
      (te := tLc (iList K (tVar 1)) (gTup K 3 (gCons (gName 2) (gCons (gName 3) (gCons (gName 4) gNil)))) tYes (tTup (tCons (tVar 2) (tCons (tVar 3) (tCons (tCB (rLo K) (tCons (tVar 4) tNil)) tNil)))) [2, 3, 4])
      rfl nd (pi_list (pv 0)) (blkOk_by (N := nCd) (sc := defScope sCd) (by decide +kernel)) (fun _ _ _ _ _ => pg_name (i := 1) nd rfl (.inl rfl)) (fun _ _ _ _ _ => pts_nil)
      (fun _ _ _ _ _ => by
        refine pe_lc (own := [("modulus", 2), ("inside", 3), ("ranges", 4)]) rfl nd (pi_list (pv 1)) ?_ (fun _ _ _ _ _ => ?_) (fun _ _ _ _ _ => pts_nil) (fun _ _ _ _ _ => ?_)
        · exact blkOk_by (N := nCd) (sc := { kind := .function, names := [(".0", .local), ("row", .local)], isGenerator := false, isCoroutine := false }) (by decide +kernel)
        · exact pg_tup rfl (pgs_cons (pg_name (i := 2) nd rfl (.inl rfl)) (pgs_cons (pg_name (i := 3) nd rfl (.inl rfl)) (pgs_cons (pg_name (i := 4) nd rfl (.inl rfl)) pgs_nil)))
        · exact pe_tup (pa_cons (pv 2) (pa_cons (pv 3) (pa_cons (pe_callTy call_list_of (by rfl) ml (by decide +kernel) (pa_cons (pv 4) pa_nil)) pa_nil)))))), ?_⟩
  have hr1' := (hids_in hr1).2
  refine ⟨_, rfl, r, rfl, ⟨_, SqL.of hr1'⟩, fun D hD => ?_⟩
  have s1 : Same H (upd H D (.lst [])) := same_new hD _
  have hlen := ha.length
  refine lc_list (xs := cvs) (fun j H' => ∃ vs, Same H H' ∧ H' D = some (.lst vs) ∧ A2 (RowAt (hids (D :: L) H')) (x.take j) vs) ⟨[], s1, upd_same, rfl⟩ (fun j H' _ ⟨_, s', _⟩ => SqL.of (s' _ _ hr1')) ?_ ?_
  · rintro j y H' hx ⟨vs, s', hD', ha'⟩
    obtain ⟨row, hz, rr, rvs, rfl, hrr, har, hlr⟩ := A2.get ha hx
    have hrr' := s' _ _ (hids_in hrr).2
    have hlt := get_lt hx
    have hlen2 := har.length
    have hvl := ha'.length
    rw [List.length_take] at hvl
    refine ⟨rfl, _, rfl, rr, rfl, ⟨_, SqL.of hrr'⟩, fun D2 hD2 => ?_⟩
    have s2 : Same H' (upd H' D2 (.lst [])) := same_new hD2 _
    have hne : D ≠ D2 := ne_of_none hD' hD2
    refine lc_list (xs := rvs) (fun k H2 => ∃ ws, Same H' H2 ∧ H2 D2 = some (.lst ws) ∧ A2 (RelAt (hids (D2 :: D :: L) H2)) (row.take k) ws) ⟨[], s2, upd_same, rfl⟩ (fun k H2 _ ⟨_, s3, _⟩ => SqL.of (s3 _ _ hrr')) ?_ ?_
    · rintro k y2 H2 hx2 ⟨ws, s3, hD22, ha2⟩
      obtain ⟨⟨m, ins, rs⟩, hz2, p, qv, rfl, hp, ⟨ra, gvs, rfl, hra, hag, hlg⟩, hm⟩ := A2.get har hx2
      have s02 := s'.trans s3
      have hlt2 := get_lt hx2
      have hwl := ha2.length
      rw [List.length_take] at hwl
      refine ⟨p, _, rfl, .inl (.inl (s02 _ _ (hids_in hp).2)), rfl, .int m, _, rfl, .bl ins, _, rfl, .ref ra, [], rfl, rfl, rfl, ?_⟩
      refine ⟨_, rfl, _, rfl, _, rfl, ra, gvs, rfl, .inl (SqL.of (s02 _ _ (hids_in hra).2)), fun l hl => ⟨by show 3 ≤ sizeLine; decide, fun t ht => ?_⟩⟩
      have e1 : Same H2 (upd H2 l (.lst gvs)) := same_new hl _
      have e2 : Same (upd H2 l (.lst gvs)) (upd (upd H2 l (.lst gvs)) t (.tup [.int m, .bl ins, .ref l])) := same_new ht _
      have s4 := s3.trans (e1.trans e2)
      have hl2 : l ≠ D2 := (ne_of_none hD22 hl).symm
      have ht2 : t ≠ D2 := (ne_of_none (e1 _ _ hD22) ht).symm
      have i2 : In (D2 :: D :: L) H2 := ((iL.same s02).cons (s3 _ _ hD')).cons hD22
      have nl := i2.new hl
      have nt := (i2.same e1).new ht
      refine ⟨ws, (e1.trans e2) _ _ hD22, sz_line (by omega), ws ++ [.ref t], same_mut s4 hD2 _, upd_same, ?_⟩
      rw [List.take_succ, hz2]
      refine A2.snoc (ha2.mono fun x v h => RelAt.same ((hids_same (e1.trans e2)).trans (hids_mut (List.mem_cons_self) _)) x v h) ?_
      refine ⟨t, .ref l, rfl, by rw [hids_ne nt, upd_ne ht2]; exact upd_same, ⟨l, gvs, rfl, ?_, ?_, hlg⟩, hm⟩
      · rw [hids_ne nl, upd_ne hl2]
        exact e2 _ _ upd_same
      · refine hag.mono fun x v h => RgAt.same ?_ x v h
        have z1 : Same (hids L H) (hids (D :: L) H') := hids_add hD s'
        have z2 : Same (hids (D :: L) H') (hids (D2 :: D :: L) (upd (upd H2 l (.lst gvs)) t (.tup [.int m, .bl ins, .ref l]))) := hids_add hD2 s4
        exact (z1.trans z2).trans (hids_mut List.mem_cons_self _)
    · rintro H2 ⟨ws, s3, hD22, ha2⟩
      rw [show row.take rvs.length = row by rw [hlen2, List.take_length]] at ha2
      have hD3 := s3 _ _ hD'
      refine ⟨vs, hD3, sz_line (by omega), vs ++ [.ref D2], same_mut (s'.trans s3) hD _, upd_same, ?_⟩
      rw [List.take_succ, hz]
      have nD2 : D2 ∉ (D :: L) := ((iL.same s').cons hD').new hD2
      refine A2.snoc (ha'.mono fun x v h => RowAt.same ((hids_same s3).trans (hids_mut List.mem_cons_self _)) x v h) ⟨D2, ws, rfl, by rw [hids_ne nD2, upd_ne hne.symm]; exact hD22, ha2.mono fun x v h => RelAt.same (hids_drop.trans (hids_mut List.mem_cons_self _)) x v h, ?_⟩
      have := ha2.length
      omega
  · rintro H' ⟨vs, s', hD', ha'⟩
    rw [show x.take cvs.length = x by rw [hlen, List.take_length]] at ha'
    have nD : D ∉ L := iL.new hD
    refine q (.ref D) H' s' ⟨D, vs, rfl, by rw [hids_ne nD]; exact hD', ha'.mono fun x v h => RowAt.same hids_drop x v h, ?_⟩
    have := ha'.length
    omega
end
end Mw

namespace Mw
open PySem L2
def mth (s : Stmt) (i : Nat) : Stmt := match s with
  | .ClassDef _ _ _ b _ _ _ _ _ _ _ => b.getD i (.Pass ⟨0, 0, 0, 0⟩)
  | s => s
section
variable {P : Program} {w : World} {K : PySem.W.Frag} {mg : Str → Option Value} {base : Heap} {C : Addr}
/-! ### Language.__init__ -/
abbrev sLi : Stmt := mth (top 10) 0
abbrev nLi : List Str := ["self", "rules", "category", "condition"]
theorem scLi : FnScope nLi ["self", "rules"] (defScope sLi) := ⟨rfl, rfl, rfl, by decide +kernel, rfl, by decide +kernel, by decide +kernel⟩
def spLi (C : Addr) : Sp := fun vs H Q _ => ∃ (o dx : Addr) (v : V) (x : List Rule) (L : List Addr), vs = [.ref o, v] ∧ H o = some (.ins C dx []) ∧ In L H ∧ RusAt (hids (o :: L) H) x v ∧
  ∀ q H', (∀ a u, H a = some u → a ≠ o → H' a = some u) → H' o = some (.ins C dx [("rules", q)]) → RusAt (hids (o :: L) H') x q → Q .non H'
theorem ok_li {f fR : Addr} {fd fdR : FuncData} (F : Fun K "__init__" "Language.__init__" sLi f fd) (Lc : LC K C)
    (GR : FnOk P w K mg base CX0 1 fR fdR ["condition"] spCd) (bR : Binds K fdR ["condition"] []) (kR : PySem.W.keepIn K (.ref fR) = true) (mR : mg "copied" = some (.ref fR)) :
    FnOk P w K mg base CX0 2 f fd ["self", "rules"] (spLi C) := by
  refine F.ok scLi (fun vs H Q E h => ?_) (fun cdv A outer s H vs Q E hr h => ?_)
  · obtain ⟨o, dx, v, x, L, rfl, _⟩ := h
    rfl
  obtain ⟨o, dx, v, x, L, rfl, ho, iL, ⟨r, rvs, rfl, hr1, ha, hl⟩, q⟩ := h
  have nd := scLi.nd
  refine ⟨_, pss_one (ps_fld (pv 0) (pe_lc (own := [("category", 2), ("condition", 3)]) (g := gTup K 2 (gCons (gName 2) (gCons (gName 3) gNil))) (tt := tYes)
      (te := tTup (tCons (tVar 2) (tCons (tCall spCd [] E0 (tCons (tVar 3) tNil)) tNil))) rfl nd (pi_list (pv 1)) (blkOk_by (N := nLi) (sc := defScope sLi) (by decide +kernel))
      (fun _ _ _ _ _ => pg_tup rfl (pgs_cons (pg_name (i := 2) nd rfl (.inl rfl)) (pgs_cons (pg_name (i := 3) nd rfl (.inl rfl)) pgs_nil))) (fun _ _ _ _ _ => pts_nil)
      (fun _ _ _ _ _ => pe_tup (pa_cons (pv 2) (pa_cons (pe_call GR hr rfl mR kR bR .nil pass0 (pa_cons (pv 3) pa_nil)) pa_nil)))) rfl), ?_⟩
  have hr1' := (hids_in hr1).2
  have iO : In (o :: L) H := iL.cons ho
  refine ⟨_, rfl, r, rfl, ⟨_, SqL.of hr1'⟩, fun D hD => ?_⟩
  have s1 : Same H (upd H D (.lst [])) := same_new hD _
  have hlen := ha.length
  refine lc_list (xs := rvs) (fun j H' => ∃ vs, Same H H' ∧ H' D = some (.lst vs) ∧ A2 (RuAt (hids (D :: o :: L) H')) (x.take j) vs) ⟨[], s1, upd_same, rfl⟩ (fun j H' _ ⟨_, s', _⟩ => SqL.of (s' _ _ hr1')) ?_ ?_
  · rintro j y H' hx ⟨vs, s', hD', ha'⟩
    obtain ⟨⟨c, z⟩, hz, p, cv, rfl, hp, hcon⟩ := A2.get ha hx
    have hlt := get_lt hx
    have hvl := ha'.length
    rw [List.length_take] at hvl
    have iD : In (D :: o :: L) H' := (iO.same s').cons hD'
    refine ⟨p, _, rfl, .inl (.inl (s' _ _ (hids_in hp).2)), rfl, .str c, _, rfl, cv, [], rfl, rfl, rfl, ?_⟩
    refine ⟨_, rfl, _, rfl, cv, z, D :: o :: L, rfl, iD, hcon.same (hids_add hD s'), fun v' H2 s2 hv' => ⟨by show 2 ≤ sizeLine; decide, fun t ht => ?_⟩⟩
    have e2 : Same H2 (upd H2 t (.tup [.str c, v'])) := same_new ht _
    have hD2 := s2 _ _ hD'
    have nt := (iD.same s2).new ht
    have tD : t ≠ D := fun e => nt (by rw [e]; exact List.mem_cons_self)
    refine ⟨vs, e2 _ _ hD2, sz_line (by omega), vs ++ [.ref t], same_mut ((s'.trans s2).trans e2) hD _, upd_same, ?_⟩
    rw [List.take_succ, hz]
    refine A2.snoc (ha'.mono fun x v h => RuAt.same ((hids_same (s2.trans e2)).trans (hids_mut List.mem_cons_self _)) x v h) ⟨t, v', rfl, by rw [hids_ne nt, upd_ne tD]; exact upd_same, hv'.same ((hids_same e2).trans (hids_mut List.mem_cons_self _))⟩
  · rintro H' ⟨vs, s', hD', ha'⟩
    rw [show x.take rvs.length = x by rw [hlen, List.take_length]] at ha'
    have nD : D ∉ (o :: L) := iO.new hD
    have Do : D ≠ o := fun e => nD (by rw [e]; exact List.mem_cons_self)
    refine ⟨_, rfl, o, C, dx, _, rfl, s' _ _ ho, Lc.c, Lc.nr, by show 0 < 1000; decide, ?_⟩
    refine q (.ref D) _ (fun a u h ne => by rw [upd_ne ne]; exact s' _ _ h) upd_same ⟨D, vs, rfl, by rw [hids_ne nD, upd_ne Do]; exact hD', ha'.mono fun x v h => RuAt.same (hids_drop.trans (hids_mut List.mem_cons_self _)) x v h, ?_⟩
    have := ha'.length
    omega
end
end Mw

namespace Mw
open PySem L2 SX
/-! ### the texts of languages, as code points -/
abbrev Tx := List Nat
def nmT (n : Int) : Tx := TL.numL n.toNat
def rgT (r : Rg) : Tx := if r.1 = r.2 then nmT r.1 else nmT r.1 ++ ([46, 46] ++ nmT r.2)
def rgsT (rs : List Rg) : Tx := TL.joinL [44] (rs.map rgT)
/-- the words of a relation -/
def relW (x : Rel) : List Tx := [110] :: ((if x.1 = 0 then [] else [[109, 111, 100], nmT x.1]) ++ ((if x.2.1 then [] else [[110, 111, 116]]) ++ [[105, 110], rgsT x.2.2]))
def relT (x : Rel) : Tx := TL.joinL [32] (relW x)
def andT : Tx := [32, 97, 110, 100, 32]
def orT : Tx := [32, 111, 114, 32]
def rowT (r : List Rel) : Tx := TL.joinL andT (r.map relT)
def conT (c : List (List Rel)) : Tx := TL.joinL orT (c.map rowT)
def ruT (r : Rule) : Tx := TL.tl r.1 ++ ([58, 32] ++ conT r.2)
def lanT (rs : List Rule) : Tx := TL.joinL [10] (rs.map ruT)
/-! ### signs -/
def fig (c : Nat) : Bool := decide (48 ≤ c) && decide (c ≤ 57)
theorem nm_all : ∀ n < 101, ((TL.numL n).all fig && decide ((TL.numL n).length ≤ 3) && !(TL.numL n).isEmpty && decide (NumText.digitsVal (TL.numL n) = n) && ((TL.numL n).head? != some 48 || decide (n = 0))) = true := by decide +kernel
structure NmOk (l : Tx) (n : Nat) : Prop where
  dig : l.all fig = true
  len : l.length ≤ 3
  ne : l ≠ []
  val : NumText.digitsVal l = n
  hd : l.head? ≠ some 48 ∨ n = 0
theorem nm_ok {n : Int} (h : 0 ≤ n) (h2 : n ≤ 100) : NmOk (nmT n) n.toNat := by
  have := nm_all n.toNat (by omega)
  simp only [Bool.and_eq_true, Bool.or_eq_true, decide_eq_true_eq, Bool.not_eq_true', bne_iff_ne] at this
  obtain ⟨⟨⟨⟨a, b⟩, c⟩, d⟩, e⟩ := this
  exact ⟨a, b, fun z => (by unfold nmT at z; rw [z] at c; cases c), d, e⟩
theorem NmOk.fig {l : Tx} {n : Nat} (h : NmOk l n) {c : Nat} (hc : c ∈ l) : 48 ≤ c ∧ c ≤ 57 := by
  have := List.all_eq_true.mp h.dig c hc
  simpa [Mw.fig] using this
theorem rg_signs {r : Rg} (h : RgOk r) : rgT r ≠ [] ∧ (rgT r).length ≤ 8 ∧ ∀ c ∈ rgT r, (48 ≤ c ∧ c ≤ 57) ∨ c = 46 := by
  have h1 := nm_ok (n := r.1) h.1 (by have := h.2.1; have := h.2.2; omega)
  have h2 := nm_ok (n := r.2) (by have := h.1; have := h.2.1; omega) (by have := h.2.2; omega)
  unfold rgT
  split
  · exact ⟨h1.ne, by have := h1.len; omega, fun c hc => .inl (h1.fig hc)⟩
  · refine ⟨by simp, ?_, fun c hc => ?_⟩
    · have := h1.len
      have := h2.len
      rw [List.length_append, List.length_append]
      show _ + (2 + _) ≤ 8
      omega
    · rcases List.mem_append.mp hc with hc | hc
      · exact .inl (h1.fig hc)
      · rcases List.mem_append.mp hc with hc | hc
        · refine .inr ?_
          simpa using hc
        · exact .inl (h2.fig hc)
theorem head_app {p q : Tx} (h : p ≠ []) : (p ++ q).head? = p.head? := by
  cases p with
  | nil => exact absurd rfl h
  | cons c p => rfl
theorem mem_joinL {S : Tx} {c : Nat} : ∀ {ps : List Tx}, c ∈ TL.joinL S ps → c ∈ S ∨ ∃ p ∈ ps, c ∈ p
  | [], h => by cases h
  | [p], h => .inr ⟨p, by simp, h⟩
  | p :: q :: r, h => by
    have h : c ∈ p ++ (S ++ TL.joinL S (q :: r)) := h
    rcases List.mem_append.mp h with h | h
    · exact .inr ⟨p, by simp, h⟩
    · rcases List.mem_append.mp h with h | h
      · exact .inl h
      · rcases mem_joinL h with h | ⟨z, hz, h⟩
        · exact .inl h
        · exact .inr ⟨z, List.mem_cons_of_mem _ hz, h⟩
theorem head_joinL {S p : Tx} {ps : List Tx} (hp : p ≠ []) : (TL.joinL S (p :: ps)).head? = p.head? := by
  cases ps with
  | nil => rfl
  | cons q r =>
    show (p ++ _).head? = _
    rw [head_app hp]
theorem len_joinL {S : Tx} {N : Nat} : ∀ {ps : List Tx}, (∀ p ∈ ps, p.length ≤ N) → (TL.joinL S ps).length ≤ ps.length * (N + S.length)
  | [], _ => Nat.zero_le _
  | [p], h => by
    have := h p (by simp)
    show p.length ≤ 1 * (N + S.length)
    omega
  | p :: q :: r, h => by
    have h1 := h p (by simp)
    have h2 := len_joinL (S := S) (N := N) (ps := q :: r) fun x hx => h x (List.mem_cons_of_mem _ hx)
    show (p ++ (S ++ TL.joinL S (q :: r))).length ≤ _
    rw [List.length_append, List.length_append]
    have e : (p :: q :: r).length * (N + S.length) = (q :: r).length * (N + S.length) + (N + S.length) := Nat.succ_mul _ _
    omega
theorem rgs_signs {rs : List Rg} (hl : rs.length ≤ 3) (h : ∀ r ∈ rs, RgOk r) : (rgsT rs).length ≤ 27 ∧ ∀ c ∈ rgsT rs, (48 ≤ c ∧ c ≤ 57) ∨ c = 46 ∨ c = 44 := by
  refine ⟨?_, fun c hc => ?_⟩
  · have := len_joinL (S := [44]) (N := 8) (ps := rs.map rgT) fun p hp => by
      obtain ⟨r, hr, rfl⟩ := List.mem_map.mp hp
      exact (rg_signs (h r hr)).2.1
    rw [List.length_map] at this
    have e : rs.length * (8 + [44].length) ≤ 3 * 9 := Nat.mul_le_mul_right _ hl
    exact Nat.le_trans this e
  · rcases mem_joinL hc with hc | ⟨p, hp, hc⟩
    · exact .inr (.inr (by simpa using hc))
    · obtain ⟨r, hr, rfl⟩ := List.mem_map.mp hp
      rcases (rg_signs (h r hr)).2.2 c hc with h | h
      · exact .inl h
      · exact .inr (.inl h)
theorem rgs_ne {rs : List Rg} (hn : rs ≠ []) (h : ∀ r ∈ rs, RgOk r) : ∃ c, (rgsT rs).head? = some c ∧ 48 ≤ c ∧ c ≤ 57 := by
  cases rs with
  | nil => exact absurd rfl hn
  | cons r rs =>
    have h1 := rg_signs (h r (by simp))
    have hr := h r (by simp)
    have hk := nm_ok (n := r.1) hr.1 (by have := hr.2.1; have := hr.2.2; omega)
    have e : (rgsT (r :: rs)).head? = (nmT r.1).head? := by
      unfold rgsT
      rw [List.map_cons, head_joinL h1.1]
      unfold rgT
      split
      · rfl
      · rw [head_app hk.ne]
    cases hn : nmT r.1 with
    | nil => exact absurd hn hk.ne
    | cons c l =>
      refine ⟨c, by rw [e, hn]; rfl, hk.fig (by rw [hn]; simp)⟩
/-- the words of a relation: no space, no head a or o -/
theorem rel_words {x : Rel} (h : RelOk x) : ∀ w ∈ relW x, 32 ∉ w ∧ w.head? ≠ some 97 ∧ w.head? ≠ some 111 ∧ w ≠ [] ∧ w.length ≤ 27 ∧ ∀ c ∈ w, c ≠ 10 ∧ c < 256 := by
  obtain ⟨h1, h2, h3, h4⟩ := h
  obtain ⟨hl, hs⟩ := rgs_signs h3 h4
  obtain ⟨c, hc, hc2⟩ := rgs_ne h2 h4
  intro w hw
  have base : ∀ w : Tx, w ∈ ([[110], [109, 111, 100], [110, 111, 116], [105, 110]] : List Tx) → 32 ∉ w ∧ w.head? ≠ some 97 ∧ w.head? ≠ some 111 ∧ w ≠ [] ∧ w.length ≤ 27 ∧ ∀ c ∈ w, c ≠ 10 ∧ c < 256 := by decide
  have num : ∀ n : Int, 0 ≤ n → n ≤ 100 → 32 ∉ nmT n ∧ (nmT n).head? ≠ some 97 ∧ (nmT n).head? ≠ some 111 ∧ nmT n ≠ [] ∧ (nmT n).length ≤ 27 ∧ ∀ c ∈ nmT n, c ≠ 10 ∧ c < 256 := fun n a b => by
    have k := nm_ok a b
    have hd : ∀ d, (nmT n).head? = some d → 48 ≤ d ∧ d ≤ 57 := fun d e => k.fig (List.mem_of_head? e)
    refine ⟨fun z => ?_, fun z => ?_, fun z => ?_, k.ne, by have := k.len; omega, fun c hc => ?_⟩
    · have := k.fig z; omega
    · have := hd _ z; omega
    · have := hd _ z; omega
    · have := k.fig hc
      omega
  unfold relW at hw
  rcases List.mem_cons.mp hw with rfl | hw
  · exact base _ (by simp)
  rcases List.mem_append.mp hw with hw | hw
  · split at hw
    · cases hw
    · rename_i hx
      rcases List.mem_cons.mp hw with rfl | hw
      · exact base _ (by simp)
      · rw [List.mem_singleton.mp hw]
        rcases h1 with h1 | ⟨a, b⟩
        · exact absurd h1 hx
        · exact num _ (by omega) b
  rcases List.mem_append.mp hw with hw | hw
  · split at hw
    · cases hw
    · rw [List.mem_singleton.mp hw]
      exact base _ (by simp)
  rcases List.mem_cons.mp hw with rfl | hw
  · exact base _ (by simp)
  · rw [List.mem_singleton.mp hw]
    refine ⟨fun z => ?_, fun z => ?_, fun z => ?_, fun z => ?_, hl, fun d hd => ?_⟩
    · rcases hs _ z with h | h | h <;> omega
    · rw [hc] at z; cases z; omega
    · rw [hc] at z; cases z; omega
    · rw [z] at hc; cases hc
    · rcases hs _ hd with h | h | h <;> omega
/-! ### where a separator of two unlike signs and more can begin -/
def np (a b : Nat) : Tx → Bool
  | x :: y :: r => !(x == a && y == b) && np a b (y :: r)
  | _ => true
theorem np_app {a b : Nat} : ∀ {p q : Tx}, np a b p = true → np a b q = true → ¬ (p.getLast? = some a ∧ q.head? = some b) → np a b (p ++ q) = true
  | [], q, _, h, _ => h
  | [x], [], _, _, _ => rfl
  | [x], y :: q, _, h, n => by
    show (!(x == a && y == b) && np a b (y :: q)) = true
    rw [h, Bool.and_true]
    by_cases e : x = a ∧ y = b
    · exact absurd ⟨by rw [e.1]; rfl, by rw [e.2]; rfl⟩ n
    · rw [Bool.not_eq_true', Bool.and_eq_false_iff]
      by_cases e1 : x = a
      · exact .inr (by simpa using fun z => e ⟨e1, z⟩)
      · exact .inl (by simpa using e1)
  | x :: y :: p, q, h, h2, n => by
    have h' : (!(x == a && y == b) && np a b (y :: p)) = true := h
    rw [Bool.and_eq_true] at h'
    have ih := np_app (p := y :: p) h'.2 h2 (fun z => n ⟨by rw [List.getLast?_cons_cons]; exact z.1, z.2⟩)
    show (!(x == a && y == b) && np a b ((y :: p) ++ q)) = true
    rw [ih, h'.1]
    rfl
theorem np_no {a b : Nat} : ∀ {p : Tx}, a ∉ p → np a b p = true
  | [], _ => rfl
  | [x], _ => rfl
  | x :: y :: p, h => by
    show (!(x == a && y == b) && np a b (y :: p)) = true
    rw [np_no (p := y :: p) fun z => h (List.mem_cons_of_mem _ z)]
    have : x ≠ a := fun e => h (by rw [e]; simp)
    simp [this]
theorem pre_two {a b : Nat} {S l : Tx} (h : TL.pre (a :: b :: S) l = true) : ∃ r, l = a :: b :: r := by
  unfold TL.pre at h
  have e := eq_of_beq h
  cases l with
  | nil => cases e
  | cons x l =>
    cases l with
    | nil => cases e
    | cons y l =>
      rw [List.length_cons, List.length_cons, List.take_succ_cons, List.take_succ_cons] at e
      injection e with e1 e
      injection e with e2 e
      exact ⟨l, by rw [e1, e2]⟩
theorem np_at {a b : Nat} : ∀ {p : Tx} {i : Nat} {r : Tx}, np a b p = true → p.drop i ≠ a :: b :: r
  | [], i, r, _, e => by rw [List.drop_nil] at e; cases e
  | [x], 0, r, _, e => by cases e
  | [x], i + 1, r, _, e => by rw [List.drop_succ_cons, List.drop_nil] at e; cases e
  | x :: y :: p, 0, r, h, e => by
    have h' : (!(x == a && y == b) && np a b (y :: p)) = true := h
    injection e with e1 e
    injection e with e2 e
    rw [e1, e2] at h'
    simp at h'
  | x :: y :: p, i + 1, r, h, e => by
    have h' : (!(x == a && y == b) && np a b (y :: p)) = true := h
    rw [Bool.and_eq_true] at h'
    exact np_at (p := y :: p) h'.2 e
theorem np_free {a b : Nat} {S p : Tx} (ab : a ≠ b) (h : np a b p = true) (q : Tx) : ∀ i, i < p.length → TL.pre (a :: b :: S) ((p ++ (a :: b :: S ++ q)).drop i) = false := by
  intro i hi
  cases e : TL.pre (a :: b :: S) ((p ++ (a :: b :: S ++ q)).drop i) with
  | false => rfl
  | true =>
    obtain ⟨r, hr⟩ := pre_two e
    rw [List.drop_append_of_le_length (Nat.le_of_lt hi)] at hr
    cases hd : p.drop i with
    | nil =>
      have := congrArg List.length hd
      rw [List.length_drop] at this
      simp at this
      omega
    | cons x l =>
      rw [hd] at hr
      cases l with
      | nil =>
        have hr : x :: (a :: b :: S ++ q) = a :: b :: r := hr
        injection hr with _ hr
        injection hr with hr _
        exact absurd hr ab
      | cons y l =>
        have hr : x :: y :: (l ++ _) = a :: b :: r := hr
        injection hr with h1 hr
        injection hr with h2 _
        rw [h1, h2] at hd
        exact absurd hd (np_at h)
theorem np_last {a b : Nat} {S p : Tx} (h : np a b p = true) : ∀ i, i < p.length → TL.pre (a :: b :: S) (p.drop i) = false := by
  intro i hi
  cases e : TL.pre (a :: b :: S) (p.drop i) with
  | false => rfl
  | true =>
    obtain ⟨r, hr⟩ := pre_two e
    exact absurd hr (np_at h)
theorem spl_np {a b : Nat} {S : Tx} (ab : a ≠ b) : ∀ {ps : List Tx}, ps ≠ [] → (∀ p ∈ ps, np a b p = true) → TL.spl (a :: b :: S) 0 [] (TL.joinL (a :: b :: S) ps) = ps
  | [], h, _ => absurd rfl h
  | [p], _, hp => by
    show TL.spl (a :: b :: S) 0 [] p = [p]
    rw [TL.spl_last (np_last (hp p (by simp))), List.nil_append]
  | p :: q :: r, _, hp => by
    show TL.spl (a :: b :: S) 0 [] (p ++ (a :: b :: S ++ TL.joinL (a :: b :: S) (q :: r))) = _
    rw [TL.spl_part (by simp) (np_free ab (hp p (by simp)) _), List.nil_append, spl_np ab (by simp) fun z hz => hp z (List.mem_cons_of_mem _ hz)]
/-- words joined by spaces -/
theorem np_words {b : Nat} (hb : b ≠ 32) : ∀ {ws : List Tx}, (∀ w ∈ ws, 32 ∉ w ∧ w.head? ≠ some b ∧ w ≠ []) → np 32 b (TL.joinL [32] ws) = true
  | [], _ => rfl
  | [w], h => np_no (h w (by simp)).1
  | w :: z :: r, h => by
    have h1 := h w (by simp)
    have ih := np_words hb (ws := z :: r) fun x hx => h x (List.mem_cons_of_mem _ hx)
    have hz := h z (by simp)
    show np 32 b (w ++ ([32] ++ TL.joinL [32] (z :: r))) = true
    refine np_app (np_no h1.1) (np_app (p := [32]) rfl ih fun e => ?_) fun e => ?_
    · have e2 := e.2
      rw [head_joinL hz.2.2] at e2
      exact hz.2.1 e2
    · have : (32 : Nat) = b := by simpa using e.2
      exact hb this.symm
theorem rel_np {x : Rel} (h : RelOk x) : np 32 97 (relT x) = true ∧ np 32 111 (relT x) = true :=
  ⟨np_words (by decide) fun w hw => by obtain ⟨a, b, c, d, _⟩ := rel_words h w hw; exact ⟨a, b, d⟩, np_words (by decide) fun w hw => by obtain ⟨a, b, c, d, _⟩ := rel_words h w hw; exact ⟨a, c, d⟩⟩
theorem rel_head (x : Rel) : (relT x).head? = some 110 := head_joinL (by simp)
theorem rel_ne (x : Rel) : relT x ≠ [] := fun e => by
  have := rel_head x
  rw [e] at this
  cases this
theorem row_np : ∀ {r : List Rel}, (∀ x ∈ r, RelOk x) → np 32 111 (rowT r) = true
  | [], _ => rfl
  | [x], h => (rel_np (h x (by simp))).2
  | x :: y :: r, h => by
    have ih := row_np (r := y :: r) fun z hz => h z (List.mem_cons_of_mem _ hz)
    show np 32 111 (relT x ++ (andT ++ rowT (y :: r))) = true
    refine np_app (rel_np (h x (by simp))).2 (np_app (p := andT) (by decide) ih fun e => ?_) fun e => ?_
    · have e2 : (rowT (y :: r)).head? = some 111 := e.2
      have : (rowT (y :: r)).head? = some 110 := by
        show (TL.joinL andT (relT y :: r.map relT)).head? = _
        rw [head_joinL (rel_ne y), rel_head]
      rw [this] at e2
      cases e2
    · have : (andT ++ rowT (y :: r)).head? = some 32 := rfl
      rw [this] at e
      cases e.2
end Mw

namespace Mw
open PySem L2 SX
theorem rel_len {x : Rel} (h : RelOk x) : (relW x).length ≤ 6 ∧ (relT x).length ≤ 168 := by
  have hl : (relW x).length ≤ 6 := by
    unfold relW
    split <;> split <;> simp
  have := len_joinL (S := [32]) (N := 27) (ps := relW x) fun w hw => (rel_words h w hw).2.2.2.2.1
  refine ⟨hl, Nat.le_trans this ?_⟩
  exact Nat.mul_le_mul_right 28 hl
theorem row_len {r : List Rel} (hl : r.length ≤ 2) (h : ∀ x ∈ r, RelOk x) : (rowT r).length ≤ 346 := by
  have := len_joinL (S := andT) (N := 168) (ps := r.map relT) fun w hw => by
    obtain ⟨x, hx, rfl⟩ := List.mem_map.mp hw
    exact (rel_len (h x hx)).2
  rw [List.length_map] at this
  exact Nat.le_trans this (Nat.mul_le_mul_right 173 hl)
theorem con_len {c : List (List Rel)} (h : ConOk c) : (conT c).length ≤ 700 := by
  have := len_joinL (S := orT) (N := 346) (ps := c.map rowT) fun w hw => by
    obtain ⟨r, hr, rfl⟩ := List.mem_map.mp hw
    obtain ⟨_, b, d⟩ := h.2.2 r hr
    exact row_len b d
  rw [List.length_map] at this
  exact Nat.le_trans this (Nat.mul_le_mul_right 350 h.2.1)
theorem cat_ok {s : Str} (h : s ∈ cats) : (TL.tl s).length ≤ 4 ∧ 58 ∉ TL.tl s ∧ 10 ∉ TL.tl s ∧ TL.tl s ≠ [] ∧ s.length ≤ 4 := by
  have a : ∀ s ∈ cats, (TL.tl s).length ≤ 4 ∧ 58 ∉ TL.tl s ∧ 10 ∉ TL.tl s ∧ TL.tl s ≠ [] ∧ s.length ≤ 4 := by decide +kernel
  exact a s h
theorem ru_len {r : Rule} (h1 : r.1 ∈ cats) (h2 : ConOk r.2) : (ruT r).length ≤ 706 := by
  have := con_len h2
  have := (cat_ok h1).1
  unfold ruT
  rw [List.length_append, List.length_append]
  show _ + (2 + _) ≤ 706
  omega
theorem lan_in {rs : List Rule} (h : LanOk rs) : rs.length ≤ 5 ∧ ∀ r ∈ rs, r.1 ∈ cats ∧ ConOk r.2 := by
  refine ⟨?_, fun r hr => ⟨h.1.subset (List.mem_map_of_mem hr), h.2 r hr⟩⟩
  have := h.1.length_le
  rw [List.length_map] at this
  exact this
theorem lan_len {rs : List Rule} (h : LanOk rs) : (lanT rs).length ≤ 3535 := by
  obtain ⟨hl, ha⟩ := lan_in h
  have := len_joinL (S := [10]) (N := 706) (ps := rs.map ruT) fun w hw => by
    obtain ⟨r, hr, rfl⟩ := List.mem_map.mp hw
    exact ru_len (ha r hr).1 (ha r hr).2
  rw [List.length_map] at this
  exact Nat.le_trans this (Nat.mul_le_mul_right 707 hl)
/-! ### no newline -/
theorem rel_nl {x : Rel} (h : RelOk x) : 10 ∉ relT x := fun z => by
  rcases mem_joinL z with z | ⟨w, hw, z⟩
  · simp at z
  · exact ((rel_words h w hw).2.2.2.2.2 10 z).1 rfl
theorem con_nl {c : List (List Rel)} (h : ConOk c) : 10 ∉ conT c := fun z => by
  rcases mem_joinL z with z | ⟨w, hw, z⟩
  · revert z; decide
  · obtain ⟨r, hr, rfl⟩ := List.mem_map.mp hw
    rcases mem_joinL z with z | ⟨w, hw, z⟩
    · revert z; decide
    · obtain ⟨x, hx, rfl⟩ := List.mem_map.mp hw
      exact rel_nl ((h.2.2 r hr).2.2 x hx) z
theorem ru_nl {r : Rule} (h1 : r.1 ∈ cats) (h2 : ConOk r.2) : 10 ∉ ruT r := fun z => by
  rcases List.mem_append.mp z with z | z
  · exact (cat_ok h1).2.2.1 z
  · rcases List.mem_append.mp z with z | z
    · revert z; decide
    · exact con_nl h2 z
/-! ### read back -/
theorem rg_eq {r : Rg} (h : RgOk r) (e : r.1 = r.2) : Txt.partition (S (rgT r)) (S [46, 46]) = (S (nmT r.1), S [], S []) := by
  have k := nm_ok (n := r.1) h.1 (by have := h.2.1; have := h.2.2; omega)
  have hn : 46 ∉ nmT r.1 := fun z => by have := k.fig z; omega
  unfold rgT
  rw [if_pos e]
  exact partition_none (by simp) (TL.par_none1 hn)
theorem rg_ne {r : Rg} (h : RgOk r) (e : r.1 ≠ r.2) : Txt.partition (S (rgT r)) (S [46, 46]) = (S (nmT r.1), S [46, 46], S (nmT r.2)) := by
  have k := nm_ok (n := r.1) h.1 (by have := h.2.1; have := h.2.2; omega)
  have hn : 46 ∉ nmT r.1 := fun z => by have := k.fig z; omega
  unfold rgT
  rw [if_neg e]
  exact partition_some (by simp) (TL.par_part1 (acc := []) hn)
theorem rgs_split {rs : List Rg} (hn : rs ≠ []) (h : ∀ r ∈ rs, RgOk r) : Txt.split (S (rgsT rs)) (S [44]) = (rs.map rgT).map S := by
  rw [split_S (by simp) (by decide)]
  unfold rgsT
  rw [TL.spl_join (by simpa using hn) fun p hp z => ?_]
  obtain ⟨r, hr, rfl⟩ := List.mem_map.mp hp
  rcases (rg_signs (h r hr)).2.2 _ z with w | w <;> omega
theorem rel_split {x : Rel} (h : RelOk x) : Txt.split (S (relT x)) (S [32]) = (relW x).map S := by
  rw [split_S (by simp) (by decide)]
  unfold relT
  rw [TL.spl_join (by unfold relW; simp) fun p hp => (rel_words h p hp).1]
theorem row_split {r : List Rel} (hn : r ≠ []) (h : ∀ x ∈ r, RelOk x) : Txt.split (S (rowT r)) (S andT) = (r.map relT).map S := by
  rw [split_S (by decide) (by decide)]
  unfold rowT andT
  rw [spl_np (by decide) (by simpa using hn) fun p hp => ?_]
  obtain ⟨x, hx, rfl⟩ := List.mem_map.mp hp
  exact (rel_np (h x hx)).1
theorem con_split {c : List (List Rel)} (h : ConOk c) : Txt.split (S (conT c)) (S orT) = (c.map rowT).map S := by
  rw [split_S (by decide) (by decide)]
  unfold conT orT
  rw [spl_np (by decide) (by simpa using h.1) fun p hp => ?_]
  obtain ⟨r, hr, rfl⟩ := List.mem_map.mp hp
  exact row_np (h.2.2 r hr).2.2
theorem ru_part {r : Rule} (h1 : r.1 ∈ cats) : Txt.partition (S (ruT r)) (S [58, 32]) = (r.1, S [58, 32], S (conT r.2)) := by
  have := partition_some (a := ruT r) (b := [58, 32]) (p := TL.tl r.1) (q := conT r.2) (by simp) (TL.par_part1 (acc := []) (cat_ok h1).2.1)
  rw [this, show S (TL.tl r.1) = r.1 from S_tl r.1]
theorem lan_split {rs : List Rule} (hn : rs ≠ []) (h : LanOk rs) : Txt.split (S (lanT rs)) (S [10]) = (rs.map ruT).map S := by
  rw [split_S (by simp) (by decide)]
  unfold lanT
  rw [TL.spl_join (by simpa using hn) fun p hp => ?_]
  obtain ⟨r, hr, rfl⟩ := List.mem_map.mp hp
  exact ru_nl ((lan_in h).2 r hr).1 ((lan_in h).2 r hr).2
theorem ru_ne {r : Rule} (h1 : r.1 ∈ cats) : ruT r ≠ [] := fun e => by
  have := congrArg List.length e
  unfold ruT at this
  simp at this
theorem lan_nil {rs : List Rule} (h : LanOk rs) : lanT rs = [] ↔ rs = [] := by
  constructor
  · intro e
    cases rs with
    | nil => rfl
    | cons r rs =>
      exfalso
      have hr := ((lan_in h).2 r (by simp)).1
      have h1 : (lanT (r :: rs)).head? = (ruT r).head? := head_joinL (ru_ne hr)
      rw [e] at h1
      cases h2 : ruT r with
      | nil => exact ru_ne hr h2
      | cons c l => rw [h2] at h1; cases h1
  · rintro rfl
    rfl
theorem num_txt (n : Int) (h : 0 ≤ n) : (toString n : Str) = S (nmT n) := by
  have := num_S n.toNat
  rw [Int.toNat_of_nonneg h] at this
  exact this
theorem num_val {n : Int} (h : 0 ≤ n) (h2 : n ≤ 100) : intText? (S (nmT n)) = some n := by
  have k := nm_ok h h2
  have := int_S (a := nmT n) k.dig k.ne (by have := k.len; omega)
  rw [this, k.val, Int.toNat_of_nonneg h]
end Mw

namespace Mw
open PySem L2 SX
theorem int_eq {i j : Int} (h : V.int i = V.int j) : i = j := by cases h; rfl
theorem str_eq {i j : Str} (h : V.str i = V.str j) : i = j := by cases h; rfl
theorem s_empty (a : Tx) : Str.empty ++ S a = S a := S_cat [] a
theorem s_lit2 : ((".." : String) : Str) = S [46, 46] := by decide +kernel
theorem s_line {a : Tx} (h : a.length ≤ 10000) : (S a).length ≤ sizeLine := by
  rw [S_len]
  exact le_line (by omega)
theorem log_ok {n : Int} (h : 0 ≤ n) (h2 : n ≤ 100) : n.natAbs.log2 < 1920 := by
  have h3 : n.natAbs < 2 ^ 7 := by omega
  by_cases e : n.natAbs = 0
  · rw [e]
    decide
  · have := (Nat.log2_lt e).mpr h3
    omega
section
variable {P : Program} {w : World} {K : PySem.W.Frag} {mg : Str → Option Value} {base : Heap} {C : Addr}
/-! ### format_range -/
abbrev sFr : Stmt := top 12
theorem scFr : FnScope ["low", "high"] ["low", "high"] (defScope sFr) := ⟨rfl, rfl, rfl, by decide +kernel, rfl, by decide +kernel, by decide +kernel⟩
def spFr : Sp := fun vs H Q _ => ∃ r : Rg, vs = [.int r.1, .int r.2] ∧ RgOk r ∧ Q (.str (S (rgT r))) H
theorem ok_fr {f : Addr} {fd : FuncData} (F : Fun K "format_range" "format_range" sFr f fd) (mstr : mg "str" = none) : FnOk P w K mg base CX0 1 f fd ["low", "high"] spFr := by
  refine F.ok scFr (fun vs H Q E h => ?_) (fun cdv A outer s H vs Q E hr h => ?_)
  · obtain ⟨r, rfl, _⟩ := h
    rfl
  obtain ⟨⟨lo, hi⟩, rfl, hok, q⟩ := h
  have nd := scFr.nd
  obtain ⟨h0, h1, h2⟩ := id hok
  have h0 : 0 ≤ lo := h0
  have h1 : lo ≤ hi := h1
  have h2 : hi ≤ 20 := h2
  refine ⟨_, (pss_one (ps_ret (pe_ifExp (pt_cmpR op_eq (pv 0) (pv 1) (nomark _)) (pe_callTy call_str_int (by rfl) mstr (by decide +kernel) (pa_cons (pv 0) pa_nil)) (pe_joined (.cons (pe_fmt (pv 0)) (.cons pe_str (.cons (pe_fmt (pv 1)) .nil))))))), ?_⟩
  refine ⟨_, rfl, _, rfl, rfl, _, rfl, ?_⟩
  have e0 : (toString lo : Str) = S (nmT lo) := num_txt lo h0
  have e1 : (toString hi : Str) = S (nmT hi) := num_txt hi (by omega)
  have k0 := (nm_ok (n := lo) h0 (by omega)).len
  have k1 := (nm_ok (n := hi) (by omega) (by omega)).len
  refine ite2 (fun c => ?_) (fun c => ?_)
  · have c : lo = hi := int_eq (of_decide_eq_true c)
    refine ⟨_, rfl, _, rfl, log_ok h0 (by omega), ?_⟩
    have e : S (rgT (lo, hi)) = S (nmT lo) := by
      unfold rgT
      rw [if_pos c]
    rw [e] at q
    show Q (.str (toString lo : Str)) H
    rw [e0]
    exact q
  · have c : lo ≠ hi := fun z => by rw [z] at c; simp at c
    have e : S (rgT (lo, hi)) = S (nmT lo) ++ S [46, 46] ++ S (nmT hi) := by
      unfold rgT
      rw [if_neg c, S_cat, S_cat, List.append_assoc]
    rw [e] at q
    refine ⟨_, rfl, .inr ⟨_, rfl, log_ok h0 (by omega), _, rfl, ?_, _, rfl, ?_, _, rfl, .inr ⟨_, rfl, log_ok (by omega) (by omega), _, rfl, ?_, ?_⟩⟩⟩ <;> simp only [e0, e1, s_lit2, s_empty, S_cat]
    · exact s_line (by omega)
    · exact s_line (by simp; omega)
    · exact s_line (by simp; omega)
    · rw [← S_cat, ← S_cat]
      exact q
end
end Mw

namespace Mw
open PySem L2 SX
theorem rel_form (x : Rel) : relT x = (if x.1 = 0 then [110] else [110, 32, 109, 111, 100, 32] ++ nmT x.1) ++ ([32] ++ ((if x.2.1 then [105, 110] else [110, 111, 116, 32, 105, 110]) ++ ([32] ++ rgsT x.2.2))) := by
  unfold relT relW
  split <;> split <;> simp [TL.joinL]
theorem s_nmod : (("n mod " : String) : Str) = S [110, 32, 109, 111, 100, 32] := by decide +kernel
theorem s_in : (("in" : String) : Str) = S [105, 110] := by decide +kernel
theorem s_notin : (("not in" : String) : Str) = S [110, 111, 116, 32, 105, 110] := by decide +kernel
theorem s_sp : ((" " : String) : Str) = S [32] := by decide +kernel
theorem s_n : (("n" : String) : Str) = S [110] := by decide +kernel
theorem s_comma : (("," : String) : Str) = S [44] := by decide +kernel
def sts (l : List Tx) : List V := (l.map S).map V.str
theorem sts_snoc (l : List Tx) (a : Tx) : sts (l ++ [a]) = sts l ++ [.str (S a)] := by simp [sts]
theorem sts_len (l : List Tx) : (sts l).length = l.length := by simp [sts]
theorem sum_le {N : Nat} : ∀ {ps : List Tx}, (∀ p ∈ ps, p.length ≤ N) → (ps.map (·.length)).sum ≤ ps.length * N
  | [], _ => Nat.zero_le _
  | p :: ps, h => by
    have h1 := h p (by simp)
    have h2 := sum_le (ps := ps) fun x hx => h x (List.mem_cons_of_mem _ hx)
    rw [List.map_cons, List.sum_cons, List.length_cons, Nat.succ_mul]
    omega
/-- what join asks, and gives -/
theorem join_ok {N : Nat} {a : Tx} {l : List Tx} (ha : a.length ≤ 10) (hl : l.length ≤ 100) (h : ∀ p ∈ l, p.length ≤ N) (hN : N ≤ 10000) : ((l.map S).map (·.length)).sum + (l.map S).length * (S a).length ≤ 16777216 := by
  have h1 := sum_le h
  have h2 : l.length * N ≤ 100 * 10000 := Nat.mul_le_mul hl hN
  have h3 : l.length * a.length ≤ 100 * 10 := Nat.mul_le_mul hl ha
  rw [lens, List.length_map, S_len]
  exact Nat.le_trans (Nat.add_le_add (Nat.le_trans h1 h2) h3) (by decide)
section
variable {P : Program} {w : World} {K : PySem.W.Frag} {mg : Str → Option Value} {base : Heap} {C : Addr}
/-! ### format_relation -/
abbrev sFl : Stmt := top 13
abbrev nFl : List Str := ["relation", "modulus", "inside", "ranges", "looked_at", "word", "low", "high"]
theorem scFl : FnScope nFl ["relation"] (defScope sFl) := ⟨rfl, rfl, rfl, by decide +kernel, rfl, by decide +kernel, by decide +kernel⟩
def spFl : Sp := fun vs H Q _ => ∃ (v : V) (x : Rel), vs = [v] ∧ RelAt H x v ∧ RelOk x ∧ ∀ H', Same H H' → Q (.str (S (relT x))) H'
theorem ok_fl {f fR : Addr} {fd fdR : FuncData} (F : Fun K "format_relation" "format_relation" sFl f fd)
    (GR : FnOk P w K mg base CX0 1 fR fdR ["low", "high"] spFr) (bR : Binds K fdR ["low", "high"] []) (kR : PySem.W.keepIn K (.ref fR) = true) (mR : mg "format_range" = some (.ref fR)) : FnOk P w K mg base CX0 2 f fd ["relation"] spFl := by
  refine F.ok scFl (fun vs H Q E h => ?_) (fun cdv A outer s H vs Q E hr h => ?_)
  · obtain ⟨v, x, rfl, _⟩ := h
    rfl
  obtain ⟨v, ⟨m, b, rs⟩, rfl, ⟨p, _, rfl, hp, ⟨r, rvs, rfl, hr1, ha, hl⟩, hm0⟩, hok, q⟩ := h
  have nd := scFl.nd
  have hr1 : H r = some (.lst rvs) := hr1
  have hok' := hok
  obtain ⟨hm, hne, hl3, hrg⟩ := hok
  have hm : m = 0 ∨ (2 ≤ m ∧ m ≤ 100) := hm
  refine ⟨_, (pss_cons (ps_asg (pv 0) (pg_tup rfl (pgs_cons (pg_name (i := 1) nd rfl (.inl rfl)) (pgs_cons (pg_name (i := 2) nd rfl (.inl rfl)) (pgs_cons (pg_name (i := 3) nd rfl (.inl rfl)) pgs_nil)))))
      (Evl.pss_cut (ps_set (i := 4) nd rfl (.inl rfl) (pe_ifExp (pt_truth (pv 1) (by intro _; rfl)) (pe_joined (.cons pe_str (.cons (pe_fmt (pv 1)) .nil))) pe_str))
      (Evl.pss_cut (ps_set (i := 5) nd rfl (.inl rfl) (pe_ifExp (pt_val (pv 2)) pe_str pe_str))
      (pss_one (ps_ret (pe_op op_add_str (pe_joined (.cons (pe_fmt (pv 4)) (.cons pe_str (.cons (pe_fmt (pv 5)) (.cons pe_str .nil))))) (pe_join pe_str (pe_lc (own := [("low", 6), ("high", 7)]) (g := (gTup K 2 (gCons (gName 6) (gCons (gName 7) gNil)))) (tt := tYes)  rfl nd (pi_list (pv 3)) (blkOk_by (N := nFl) (sc := defScope sFl) (by decide +kernel)) (fun _ _ _ _ _ => (pg_tup rfl (pgs_cons (pg_name (i := 6) nd rfl (.inl rfl)) (pgs_cons (pg_name (i := 7) nd rfl (.inl rfl)) pgs_nil)))) (fun _ _ _ _ _ => pts_nil) (fun _ _ _ _ _ => (pe_call GR hr rfl mR kR bR .nil pass0 (pa_cons (pv 6) (pa_cons (pv 7) pa_nil)))))))))))), ?_⟩
  refine ⟨_, rfl, p, _, rfl, .inl (.inl hp), rfl, .int m, _, rfl, .bl b, _, rfl, .ref r, [], rfl, rfl, ?_⟩
  refine ⟨fun σ' H' => σ' = [some (.ref p), some (.int m), some (.bl b), some (.ref r), some (.str (S (if m = 0 then [110] else [110, 32, 109, 111, 100, 32] ++ nmT m))), none, none, none] ∧ H' = H, ?_, ?_⟩
  · refine ⟨_, rfl, _, rfl, ?_⟩
    by_cases c : m = 0
    · subst c
      exact iteF ⟨rfl, rfl⟩
    · rw [show (m != 0) = true by simpa using c]
      have hm' : 2 ≤ m ∧ m ≤ 100 := hm.resolve_left c
      have e0 : (toString m : Str) = S (nmT m) := num_txt m (by omega)
      have k0 := (nm_ok (n := m) (by omega) (by omega)).len
      refine iteT ⟨_, rfl, ?_, _, rfl, .inr ⟨_, rfl, log_ok (by omega) (by omega), _, rfl, ?_, ?_⟩⟩ <;> simp only [e0, s_nmod, s_empty, S_cat]
      · exact s_line (by simp)
      · exact s_line (by simp; omega)
      · rw [if_neg c]
        exact ⟨rfl, rfl⟩
  rintro σ' H' ⟨rfl, rfl⟩
  refine ⟨fun σ' H1 => σ' = [some (.ref p), some (.int m), some (.bl b), some (.ref r), some (.str (S (if m = 0 then [110] else [110, 32, 109, 111, 100, 32] ++ nmT m))), some (.str (S (if b then [105, 110] else [110, 111, 116, 32, 105, 110]))), none, none] ∧ H1 = H', ?_, ?_⟩
  · refine ⟨_, rfl, _, rfl, ?_⟩
    cases b with
    | true => exact iteT ⟨by simp only [s_in]; rfl, rfl⟩
    | false => exact iteF ⟨by simp only [s_notin]; rfl, rfl⟩
  rintro σ' H1 ⟨rfl, rfl⟩
  have hlk : (if m = 0 then [110] else [110, 32, 109, 111, 100, 32] ++ nmT m).length ≤ 12 := by
    split
    · decide
    · rename_i c
      have hm' : 2 ≤ m ∧ m ≤ 100 := hm.resolve_left c
      have k0 := (nm_ok (n := m) (by omega) (by omega)).len
      simp
      omega
  have hform := rel_form (m, b, rs)
  have hform : relT (m, b, rs) = (if m = 0 then [110] else [110, 32, 109, 111, 100, 32] ++ nmT m) ++ ([32] ++ ((if b then [105, 110] else [110, 111, 116, 32, 105, 110]) ++ ([32] ++ rgsT rs))) := hform
  have hwl : (if b then [105, 110] else [110, 111, 116, 32, 105, 110] : Tx).length ≤ 6 := by cases b <;> decide
  generalize (if m = 0 then [110] else [110, 32, 109, 111, 100, 32] ++ nmT m) = lk at hlk hform
  generalize (if b then [105, 110] else [110, 111, 116, 32, 105, 110] : Tx) = wd at hwl hform
  refine ⟨_, rfl, .inl ⟨_, rfl, ?_, _, rfl, ?_, _, rfl, ?_, _, rfl, .inl ⟨_, rfl, ?_, _, rfl, ?_, _, rfl, ?_, ?_⟩⟩⟩ <;> try simp only [s_sp, s_empty, S_cat]
  · exact s_line (by omega)
  · exact s_line (by omega)
  · exact s_line (by simp; omega)
  · exact s_line (by omega)
  · exact s_line (by simp; omega)
  · exact s_line (by simp; omega)
  have hlen := ha.length
  refine ⟨⟨_, rfl⟩, _, rfl, r, rfl, ⟨_, SqL.of hr1⟩, fun D hD => lc_list (K := K) (xs := rvs) (fun i H' => Same H1 H' ∧ H' D = some (.lst (sts ((rs.take i).map rgT)))) ⟨same_new hD _, upd_same⟩ (fun i H' _ ⟨s', _⟩ => SqL.of (s' _ _ hr1)) ?_ ?_⟩
  · rintro i y H' hy ⟨s', hD'⟩
    obtain ⟨rg, hrgi, t, rfl, ht⟩ := A2.get ha hy
    have hrgi : rs[i]? = some rg := hrgi
    refine ⟨t, _, rfl, .inl (.inl (s' _ _ ht)), rfl, .int rg.1, _, rfl, .int rg.2, [], rfl, rfl, rfl, ?_⟩
    refine ⟨_, rfl, _, rfl, rg, rfl, hrg rg (List.mem_of_getElem? hrgi), _, hD', sz_line ?_, same_mut s' hD _, ?_⟩
    · have h3 : rs.length ≤ 3 := hl3
      have hi := get_lt hrgi
      rw [sts_len, List.length_map, List.length_take]
      omega
    · rw [upd_same, take_map rgT hrgi, sts_snoc]
  · rintro H' ⟨s', hD'⟩
    rw [hlen, List.take_length] at hD'
    refine ⟨_, D, (rs.map rgT).map S, rfl, rfl, .inl (SqL.of hD'), join_ok (a := [44]) (N := 8) (by decide) (by rw [List.length_map]; exact Nat.le_trans hl3 (by decide)) (fun p hp => ?_) (by decide), ?_⟩
    · obtain ⟨g, hg, rfl⟩ := List.mem_map.mp hp
      exact (rg_signs (hrg g hg)).2.1
    · have ej : Txt.join (("," : String) : Str) ((rs.map rgT).map S) = S (rgsT rs) := by
        rw [s_comma, join_S]
        rfl
      rw [ej]
      refine ⟨_, _, rfl, rfl, ?_, ?_⟩
      · have := (rgs_signs hl3 hrg).1
        rw [S_len, S_len]
        refine le_line ?_
        have : (rgsT rs).length ≤ 27 := this
        simp
        omega
      · rw [S_cat]
        have e : lk ++ [32] ++ wd ++ [32] ++ rgsT rs = relT (m, b, rs) := by
          rw [hform]
          simp
        rw [e]
        exact q _ s'
end
end Mw

namespace Mw
open PySem L2 SX
def rJ (K : PySem.W.Frag) : V → List V → Hp → VK → Prop := fun x xs H Q => ∃ a p, ∃ ys : List Str, x = .str a ∧ xs = [.ref p] ∧ (SqL K H p (ys.map V.str) ∨ SqT K H p (ys.map V.str)) ∧ (ys.map (·.length)).sum + ys.length * a.length ≤ 16777216 ∧ Q (.str (Txt.join a ys)) H
theorem s_and : ((" and " : String) : Str) = S andT := by decide +kernel
theorem s_or : ((" or " : String) : Str) = S orT := by decide +kernel
section
variable {P : Program} {w : World} {K : PySem.W.Frag} {mg : Str → Option Value} {base : Heap} {C : Addr}
/-! ### format_condition -/
abbrev sFc : Stmt := top 14
abbrev nFc : List Str := ["condition", "row", "relation"]
theorem scFc : FnScope nFc ["condition"] (defScope sFc) := ⟨rfl, rfl, rfl, by decide +kernel, rfl, by decide +kernel, by decide +kernel⟩
def spFc : Sp := fun vs H Q _ => ∃ (v : V) (x : List (List Rel)), vs = [v] ∧ ConAt H x v ∧ ConOk x ∧ ∀ H', Same H H' → Q (.str (S (conT x))) H'
theorem ok_fc {f fL : Addr} {fd fdL : FuncData} (F : Fun K "format_condition" "format_condition" sFc f fd)
    (GL : FnOk P w K mg base CX0 2 fL fdL ["relation"] spFl) (bL : Binds K fdL ["relation"] []) (kL : PySem.W.keepIn K (.ref fL) = true) (mL : mg "format_relation" = some (.ref fL)) : FnOk P w K mg base CX0 3 f fd ["condition"] spFc := by
  refine F.ok scFc (fun vs H Q E h => ?_) (fun cdv A outer s H vs Q E hr h => ?_)
  · obtain ⟨v, x, rfl, _⟩ := h
    rfl
  obtain ⟨v, x, rfl, ⟨r, cvs, rfl, hr1, ha, hl⟩, hok, q⟩ := h
  have nd := scFc.nd
  refine ⟨_, pss_one (ps_ret (pe_join pe_str (pe_lc (own := [("row", 1)]) (g := gName 1) (tt := tYes)
      (te := tM1 (rJ K) (tC (.str " and ")) (tLc (iList K (tVar 1)) (gName 2) tYes (tCall spFl [] E0 (tCons (tVar 2) tNil)) [2]))
      rfl nd (pi_list (pv 0)) (blkOk_by (N := nFc) (sc := defScope sFc) (by decide +kernel)) (fun _ _ _ _ _ => pg_name (i := 1) nd rfl (.inl rfl)) (fun _ _ _ _ _ => pts_nil)
      (fun _ _ _ _ _ => pe_join pe_str (by
        refine pe_lc (own := [("relation", 2)]) rfl nd (pi_list (pv 1)) ?_ (fun _ _ _ _ _ => ?_) (fun _ _ _ _ _ => pts_nil) (fun _ _ _ _ _ => ?_)
        · exact blkOk_by (N := nFc) (sc := { kind := .function, names := [(".0", .local), ("row", .local)], isGenerator := false, isCoroutine := false }) (by decide +kernel)
        · exact pg_name (i := 2) nd rfl (.inl rfl)
        · exact pe_call GL hr rfl mL kL bL .nil pass0 (pa_cons (pv 2) pa_nil)))))), ?_⟩
  have hlen := ha.length
  refine ⟨⟨_, rfl⟩, _, rfl, r, rfl, ⟨_, SqL.of hr1⟩, fun D hD => lc_list (K := K) (xs := cvs) (fun i H' => Same H H' ∧ H' D = some (.lst (sts ((x.take i).map rowT)))) ⟨same_new hD _, upd_same⟩ (fun i H' _ ⟨s', _⟩ => SqL.of (s' _ _ hr1)) ?_ ?_⟩
  · rintro i y H' hy ⟨s', hD'⟩
    obtain ⟨row, hz, rr, rvs, rfl, hrr, har, hlr⟩ := A2.get ha hy
    have hrr' := s' _ _ hrr
    have hi := get_lt hz
    have hcl := hok.2.1
    obtain ⟨hne, hl2, hrow⟩ := hok.2.2 row (List.mem_of_getElem? hz)
    have hlen2 := har.length
    refine ⟨rfl, ⟨_, rfl⟩, _, rfl, rr, rfl, ⟨_, SqL.of hrr'⟩, fun D2 hD2 => lc_list (K := K) (xs := rvs) (fun k H2 => Same H' H2 ∧ H2 D2 = some (.lst (sts ((row.take k).map relT)))) ⟨same_new hD2 _, upd_same⟩ (fun k H2 _ ⟨s3, _⟩ => SqL.of (s3 _ _ hrr')) ?_ ?_⟩
    · rintro k y2 H2 hy2 ⟨s3, hD22⟩
      obtain ⟨z, hz2, hzv⟩ := A2.get har hy2
      have hk := get_lt hz2
      refine ⟨rfl, _, rfl, y2, z, rfl, RelAt.same (s'.trans s3) z y2 hzv, hrow z (List.mem_of_getElem? hz2), fun H3 s4 => ⟨_, s4 _ _ hD22, sz_line ?_, same_mut (s3.trans s4) hD2 _, ?_⟩⟩
      · rw [sts_len, List.length_map, List.length_take]
        omega
      · rw [upd_same, take_map relT hz2, sts_snoc]
    · rintro H2 ⟨s3, hD22⟩
      rw [hlen2, List.take_length] at hD22
      refine ⟨_, D2, (row.map relT).map S, rfl, rfl, .inl (SqL.of hD22), ?_, ?_⟩
      · rw [s_and]
        exact join_ok (a := andT) (N := 168) (by decide) (by rw [List.length_map]; omega) (fun p hp => by
          obtain ⟨g, hg, rfl⟩ := List.mem_map.mp hp
          exact (rel_len (hrow g hg)).2) (by decide)
      · refine ⟨_, s3 _ _ hD', sz_line ?_, same_mut (s'.trans s3) hD _, ?_⟩
        · rw [sts_len, List.length_map, List.length_take]
          omega
        · have ej : Txt.join ((" and " : String) : Str) ((row.map relT).map S) = S (rowT row) := by
            rw [s_and, join_S]
            rfl
          rw [upd_same, take_map rowT hz, sts_snoc, ej]
  · rintro H' ⟨s', hD'⟩
    rw [hlen, List.take_length] at hD'
    have hcl := hok.2.1
    refine ⟨_, D, (x.map rowT).map S, rfl, rfl, .inl (SqL.of hD'), ?_, ?_⟩
    · rw [s_or]
      exact join_ok (a := orT) (N := 346) (by decide) (by rw [List.length_map]; omega) (fun p hp => by
        obtain ⟨g, hg, rfl⟩ := List.mem_map.mp hp
        obtain ⟨_, b, c⟩ := hok.2.2 g hg
        exact row_len b c) (by decide)
    · have ej : Txt.join ((" or " : String) : Str) ((x.map rowT).map S) = S (conT x) := by
        rw [s_or, join_S]
        rfl
      rw [ej]
      exact q _ s'
end
end Mw

namespace Mw
open PySem L2 SX
def tFs (ts : List TE) : TE := fun σ H Q => tJs ts Str.empty σ H fun out H1 => Q (.str out) H1
theorem str_len2 (a b : Str) : (a ++ b).length = a.length + b.length := by
  show (a.cps ++ b.cps).size = _
  rw [Array.size_append]
  rfl
theorem s_nl : (("\n" : String) : Str) = S [10] := by decide +kernel
theorem s_col : ((": " : String) : Str) = S [58, 32] := by decide +kernel
theorem ru_form (r : Rule) : r.1 ++ S [58, 32] ++ S (conT r.2) = S (ruT r) := by
  have e : r.1 = S (TL.tl r.1) := (S_tl r.1).symm
  conv => lhs; rw [e]
  rw [S_cat, S_cat]
  unfold ruT
  rw [List.append_assoc]
section
variable {P : Program} {w : World} {K : PySem.W.Frag} {mg : Str → Option Value} {base : Heap} {C : Addr}
/-! ### format_language -/
abbrev sFg : Stmt := top 15
abbrev nFg : List Str := ["language", "category", "condition"]
theorem scFg : FnScope nFg ["language"] (defScope sFg) := ⟨rfl, rfl, rfl, by decide +kernel, rfl, by decide +kernel, by decide +kernel⟩
def spFg (C : Addr) : Sp := fun vs H Q _ => ∃ (v : V) (rs : List Rule), vs = [v] ∧ LanAt C H rs v ∧ LanOk rs ∧ ∀ H', Same H H' → Q (.str (S (lanT rs))) H'
theorem ok_fg {f fC : Addr} {fd fdC : FuncData} (F : Fun K "format_language" "format_language" sFg f fd) (Lc : LC K C)
    (GC : FnOk P w K mg base CX0 3 fC fdC ["condition"] spFc) (bC : Binds K fdC ["condition"] []) (kC : PySem.W.keepIn K (.ref fC) = true) (mC : mg "format_condition" = some (.ref fC)) : FnOk P w K mg base CX0 4 f fd ["language"] (spFg C) := by
  refine F.ok scFg (fun vs H Q E h => ?_) (fun cdv A outer s H vs Q E hr h => ?_)
  · obtain ⟨v, x, rfl, _⟩ := h
    rfl
  obtain ⟨v, rs, rfl, ⟨o, dx, qv, rfl, ho, ⟨r, rvs, rfl, hr1, ha, hl⟩⟩, hok, q⟩ := h
  have nd := scFg.nd
  obtain ⟨hl5, hin⟩ := lan_in hok
  refine ⟨_, pss_one (ps_ret (pe_join pe_str (pe_lc (own := [("category", 1), ("condition", 2)]) (g := gTup K 2 (gCons (gName 1) (gCons (gName 2) gNil))) (tt := tYes) (te := tFs [tFmt (tVar 1), tC (.str ": "), tFmt (tCall spFc [] E0 (tCons (tVar 2) tNil))]) rfl nd (pi_list (pe_fld (pv 0) rfl)) (blkOk_by (N := nFg) (sc := defScope sFg) (by decide +kernel))
      (fun _ _ _ _ _ => pg_tup rfl (pgs_cons (pg_name (i := 1) nd rfl (.inl rfl)) (pgs_cons (pg_name (i := 2) nd rfl (.inl rfl)) pgs_nil))) (fun _ _ _ _ _ => pts_nil)
      (fun _ _ _ _ _ => pe_joined (.cons (pe_fmt (pv 1)) (.cons pe_str (.cons (pe_fmt (pe_call GC hr rfl mC kC bC .nil pass0 (pa_cons (pv 2) pa_nil))) .nil))))))), ?_⟩
  have hlen := ha.length
  refine ⟨⟨_, rfl⟩, _, rfl, o, C, dx, _, .ref r, rfl, ho, Lc.c, Lc.nr, rfl, r, rfl, ⟨_, SqL.of hr1⟩, fun D hD => ?_⟩
  refine lc_list (xs := rvs) (fun i H' => Same H H' ∧ H' D = some (.lst (sts ((rs.take i).map ruT)))) ⟨same_new hD _, upd_same⟩ (fun i H' _ ⟨s', _⟩ => SqL.of (s' _ _ hr1)) ?_ ?_
  · rintro i y H' hy ⟨s', hD'⟩
    obtain ⟨⟨c, con⟩, hz, p, cv, rfl, hp, hcon⟩ := A2.get ha hy
    obtain ⟨hc, hco⟩ := hin _ (List.mem_of_getElem? hz)
    have hi := get_lt hz
    have hc : c ∈ cats := hc
    have hco : ConOk con := hco
    have hk := cat_ok hc
    have hcl := con_len hco
    refine ⟨p, _, rfl, .inl (.inl (s' _ _ hp)), rfl, .str c, _, rfl, cv, [], rfl, rfl, rfl, ?_⟩
    have e0 : ∀ x : Str, Str.empty ++ x = x := fun x => by
      have e : x = S (TL.tl x) := (S_tl x).symm
      rw [e]
      exact s_empty _
    refine ⟨_, rfl, .inl ⟨_, rfl, ?_, _, rfl, ?_, _, rfl, ?_, _, rfl, cv, con, rfl, hcon.same s', hco, fun H2 s2 => .inl ⟨_, rfl, ?_, _, rfl, ?_, _, s2 _ _ hD', sz_line ?_, same_mut (s'.trans s2) hD _, ?_⟩⟩⟩
    · exact le_line (by have := hk.2.2.2.2; omega)
    · rw [e0]
      exact le_line (by have := hk.2.2.2.2; omega)
    · rw [e0, s_col, str_len2]
      exact le_line (by have := hk.2.2.2.2; simp [S_len]; omega)
    · exact s_line (by omega)
    · rw [e0, s_col, str_len2, str_len2]
      exact le_line (by have := hk.2.2.2.2; simp [S_len]; omega)
    · rw [sts_len, List.length_map, List.length_take]
      omega
    · rw [upd_same, take_map ruT hz, sts_snoc, e0, s_col, ru_form (c, con)]
  · rintro H' ⟨s', hD'⟩
    rw [hlen, List.take_length] at hD'
    refine ⟨_, D, (rs.map ruT).map S, rfl, rfl, .inl (SqL.of hD'), ?_, ?_⟩
    · rw [s_nl]
      exact join_ok (a := [10]) (N := 706) (by decide) (by rw [List.length_map]; omega) (fun p hp => by
        obtain ⟨g, hg, rfl⟩ := List.mem_map.mp hp
        exact ru_len (hin g hg).1 (hin g hg).2) (by decide)
    · have ej : Txt.join (("\n" : String) : Str) ((rs.map ruT).map S) = S (lanT rs) := by
        rw [s_nl, join_S]
        rfl
      rw [ej]
      exact q _ s'
end
end Mw

namespace Mw
open PySem L2 SX
theorem rel_form2 (x : Rel) : relT x = ((if x.1 = 0 then [110] else [110] ++ [32, 109, 111, 100, 32] ++ nmT x.1) ++ (if x.2.1 then [] else [32, 110, 111, 116])) ++ [32, 105, 110, 32] ++ rgsT x.2.2 := by
  unfold relT relW
  split <;> split <;> simp [TL.joinL]
theorem s_mod : ((" mod " : String) : Str) = S [32, 109, 111, 100, 32] := by decide +kernel
theorem s_not : ((" not" : String) : Str) = S [32, 110, 111, 116] := by decide +kernel
theorem s_in2 : ((" in " : String) : Str) = S [32, 105, 110, 32] := by decide +kernel
theorem s_sum {a b : Tx} (h : a.length + b.length ≤ 10000) : (S a).length + (S b).length ≤ sizeLine := by
  rw [S_len, S_len]
  exact le_line (by omega)
section
variable {P : Program} {w : World} {K : PySem.W.Frag} {mg : Str → Option Value} {base : Heap} {C : Addr}
/-! ### _law_range -/
abbrev sRa : Stmt := top 33
theorem scRa : FnScope ["pair"] ["pair"] (defScope sRa) := ⟨rfl, rfl, rfl, by decide +kernel, rfl, by decide +kernel, by decide +kernel⟩
def spRa : Sp := fun vs H Q _ => ∃ (v : V) (r : Rg), vs = [v] ∧ RgAt H r v ∧ RgOk r ∧ Q (.str (S (rgT r))) H
theorem ok_ra {f : Addr} {fd : FuncData} (F : Fun K "_law_range" "_law_range" sRa f fd) (mstr : mg "str" = none) : FnOk P w K mg base CX0 1 f fd ["pair"] spRa := by
  refine F.ok scRa (fun vs H Q E h => ?_) (fun cdv A outer s H vs Q E hr h => ?_)
  · obtain ⟨v, r, rfl, _⟩ := h
    rfl
  obtain ⟨v, ⟨lo, hi⟩, rfl, ⟨p, rfl, hp⟩, hok, q⟩ := h
  have nd := scRa.nd
  obtain ⟨h0, h1, h2⟩ := id hok
  have h0 : 0 ≤ lo := h0
  have h1 : lo ≤ hi := h1
  have h2 : hi ≤ 20 := h2
  have hp : H p = some (.tup [.int lo, .int hi]) := hp
  have i0 : ∀ Q : VK, Q (.int lo) H → tOp (rIxT K) (tVar 0) (tC (.int 0)) [some (.ref p)] H Q := fun Q qq => ⟨_, rfl, p, _, 0, .int lo, rfl, rfl, .inl (.inl hp), atI_nat (j := 0) rfl, qq⟩
  have i1 : ∀ Q : VK, Q (.int hi) H → tOp (rIxT K) (tVar 0) (tC (.int 1)) [some (.ref p)] H Q := fun Q qq => ⟨_, rfl, p, _, 1, .int hi, rfl, rfl, .inl (.inl hp), atI_nat (j := 1) rfl, qq⟩
  refine ⟨_, (pss_cons (ps_if (pt_cmpR op_eq (pe_ix ix_tup (pv 0) pe_int (fun _ _ => rfl)) (pe_ix ix_tup (pv 0) pe_int (fun _ _ => rfl)) (nomark _)) (pss_one (ps_ret (pe_callTy call_str_int (by rfl) mstr (by decide +kernel) (pa_cons (pe_ix ix_tup (pv 0) pe_int (fun _ _ => rfl)) pa_nil)))) pss_nil)
      (pss_one (ps_ret (pe_op op_add_str (pe_op op_add_str (pe_callTy call_str_int (by rfl) mstr (by decide +kernel) (pa_cons (pe_ix ix_tup (pv 0) pe_int (fun _ _ => rfl)) pa_nil)) pe_str) (pe_callTy call_str_int (by rfl) mstr (by decide +kernel) (pa_cons (pe_ix ix_tup (pv 0) pe_int (fun _ _ => rfl)) pa_nil)))))), ?_⟩
  refine i0 _ (i1 _ ⟨rfl, _, rfl, ?_⟩)
  have e0 : (toString lo : Str) = S (nmT lo) := num_txt lo h0
  have e1 : (toString hi : Str) = S (nmT hi) := num_txt hi (by omega)
  have k0 := (nm_ok (n := lo) h0 (by omega)).len
  have k1 := (nm_ok (n := hi) (by omega) (by omega)).len
  refine ite2 (fun c => ?_) (fun c => ?_)
  · have c : lo = hi := int_eq (of_decide_eq_true c)
    refine i0 _ ⟨_, rfl, log_ok h0 (by omega), ?_⟩
    have e : S (rgT (lo, hi)) = S (nmT lo) := by
      unfold rgT
      rw [if_pos c]
    rw [e] at q
    show Q (.str (toString lo : Str)) H
    rw [e0]
    exact q
  · have c : lo ≠ hi := fun z => by rw [z] at c; simp at c
    have e : S (rgT (lo, hi)) = S (nmT lo) ++ S [46, 46] ++ S (nmT hi) := by
      unfold rgT
      rw [if_neg c, S_cat, S_cat, List.append_assoc]
    rw [e] at q
    refine i0 _ ⟨_, rfl, log_ok h0 (by omega), _, _, rfl, rfl, ?_, i1 _ ⟨_, rfl, log_ok (by omega) (by omega), _, _, rfl, rfl, ?_, ?_⟩⟩ <;> simp only [e0, e1, s_lit2]
    · exact s_sum (by simp; omega)
    · rw [S_cat]
      exact s_sum (by simp; omega)
    · exact q
/-! ### _law_line -/
abbrev sLw : Stmt := top 34
abbrev nLw : List Str := ["rule", "rows", "row", "parts", "modulus", "inside", "ranges", "text", "pair"]
theorem scLw : FnScope nLw ["rule"] (defScope sLw) := ⟨rfl, rfl, rfl, by decide +kernel, rfl, by decide +kernel, by decide +kernel⟩
def spLw : Sp := fun vs H Q _ => ∃ (v : V) (r : Rule), vs = [v] ∧ RuAt H r v ∧ r.1 ∈ cats ∧ ConOk r.2 ∧ ∀ H', Same H H' → Q (.str (S (ruT r))) H'
theorem ok_lw {f fR : Addr} {fd fdR : FuncData} (F : Fun K "_law_line" "_law_line" sLw f fd)
    (GR : FnOk P w K mg base CX0 1 fR fdR ["pair"] spRa) (bR : Binds K fdR ["pair"] []) (kR : PySem.W.keepIn K (.ref fR) = true) (mR : mg "_law_range" = some (.ref fR)) (mstr : mg "str" = none) : FnOk P w K mg base CX0 2 f fd ["rule"] spLw := by
  refine F.ok scLw (fun vs H Q E h => ?_) (fun cdv A outer s H vs Q E hr h => ?_)
  · obtain ⟨v, r, rfl, _⟩ := h
    rfl
  obtain ⟨v, ⟨cat, x⟩, rfl, ⟨p, cv, rfl, hp, ⟨r, cvs, rfl, hr1, ha, hl⟩⟩, hcat, hok, q⟩ := h
  have hcat : cat ∈ cats := hcat
  have hok : ConOk x := hok
  have nd := scLw.nd
  have hp : H p = some (.tup [.str cat, .ref r]) := hp
  refine ⟨_, (pss_cons (ps_set (i := 1) nd rfl (.inl rfl) (pe_lst pa_nil))
      (pss_cons (ps_for PassesOwn.never rfl (pi_list (pe_ix ix_tup (pv 0) pe_int (fun _ _ => rfl))) (pg_name (i := 2) nd rfl (.inl rfl)) (pss_cons (ps_set (i := 3) nd rfl (.inl rfl) (pe_lst pa_nil))
      (pss_cons (ps_for PassesOwn.never rfl (pi_list (pv 2)) (pg_tup rfl (pgs_cons (pg_name (i := 4) nd rfl (.inl rfl)) (pgs_cons (pg_name (i := 5) nd rfl (.inl rfl)) (pgs_cons (pg_name (i := 6) nd rfl (.inl rfl)) pgs_nil)))) (pss_cons (ps_set (i := 7) nd rfl (.inl rfl) pe_str)
      (Evl.pss_cut (ps_if (pt_cmpR op_gt (pv 4) pe_int (nomark _)) (pss_one (ps_set (i := 7) nd rfl (.inl rfl) (pe_op op_add_str (pe_op op_add_str (pv 7) pe_str) (pe_callTy call_str_int (by rfl) mstr (by decide +kernel) (pa_cons (pv 4) pa_nil))))) pss_nil)
      (Evl.pss_cut (ps_if (pt_not (pt_val (pv 5))) (pss_one (ps_set (i := 7) nd rfl (.inl rfl) (pe_op op_add_str (pv 7) pe_str))) pss_nil)
      (pss_one (ps_expr (pe_bm PySem.F.plainAttrs_list PySem.F.slot_list_append PySem.F.type_list_append mt_append (pv 3) (pa_cons (pe_op op_add_str (pe_op op_add_str (pv 7) pe_str) (pe_join pe_str (pe_lc (own := [("pair", 8)]) (g := (gName 8)) (tt := tYes)  rfl nd (pi_list (pv 6)) (blkOk_by (N := nLw) (sc := defScope sLw) (by decide +kernel)) (fun _ _ _ _ _ => (pg_name (i := 8) nd rfl (.inl rfl))) (fun _ _ _ _ _ => pts_nil) (fun _ _ _ _ _ => (pe_call GR hr rfl mR kR bR .nil pass0 (pa_cons (pv 8) pa_nil)))))) pa_nil))))))))
      (pss_one (ps_expr (pe_bm PySem.F.plainAttrs_list PySem.F.slot_list_append PySem.F.type_list_append mt_append (pv 1) (pa_cons (pe_join pe_str (pv 3)) pa_nil)))))))
      (pss_one (ps_ret (pe_op op_add_str (pe_op op_add_str (pe_ix ix_tup (pv 0) pe_int (fun _ _ => rfl)) pe_str) (pe_join pe_str (pv 1))))))), ?_⟩
  refine ⟨Nat.zero_le _, fun rl hrl => ?_⟩
  have s1 : Same H (upd H rl (.lst [])) := same_new hrl _
  have hlen := ha.length
  have hlen : cvs.length = x.length := hlen
  have hx2 := hok.2.1
  refine ⟨_, rfl, p, _, 1, .ref r, rfl, rfl, .inl (.inl (s1 _ _ hp)), atI_nat (j := 1) rfl, r, rfl, ⟨_, SqL.of (s1 _ _ hr1)⟩, ?_⟩
  refine for_list (K := K) (a := r) (xs := cvs) (fun i σ H' => (∃ o2 o3 o4 o5 o6 o7, σ = [some (.ref p), some (.ref rl), o2, o3, o4, o5, o6, o7, none]) ∧ Same H H' ∧ H' rl = some (.lst (sts ((x.take i).map rowT)))) ⟨⟨_, _, _, _, _, _, rfl⟩, s1, upd_same⟩ (fun i σ H' _ ⟨_, s', _⟩ => SqL.of (s' _ _ hr1)) ?_ ?_
  · rintro i y σ H2 hy ⟨⟨o2, o3, o4, o5, o6, o7, rfl⟩, s2, hrl2⟩
    obtain ⟨row, hz, rr, rvs, rfl, hrr, har, hlr⟩ := A2.get ha hy
    have hz : x[i]? = some row := hz
    have hi := get_lt hz
    obtain ⟨hne, hl2, hrow⟩ := hok.2.2 row (List.mem_of_getElem? hz)
    have hlen2 := har.length
    refine ⟨Nat.zero_le _, fun pl hpl => ?_⟩
    have s3 : Same H2 (upd H2 pl (.lst [])) := same_new hpl _
    have plrl : rl ≠ pl := ne_of_none hrl2 hpl
    have hplH : H pl = none := s2.free hpl
    refine ⟨_, rfl, rr, rfl, ⟨_, SqL.of ((s2.trans s3) _ _ hrr)⟩, ?_⟩
    refine for_list (K := K) (a := rr) (xs := rvs) (fun k σ H' => (∃ o4 o5 o6 o7, σ = [some (.ref p), some (.ref rl), some (.ref rr), some (.ref pl), o4, o5, o6, o7, none]) ∧ Same H H' ∧ H' rl = some (.lst (sts ((x.take i).map rowT))) ∧ H' pl = some (.lst (sts ((row.take k).map relT)))) ⟨⟨_, _, _, _, rfl⟩, s2.trans s3, s3 _ _ hrl2, upd_same⟩ (fun k σ H' _ ⟨_, s', _⟩ => SqL.of (s' _ _ hrr)) ?_ ?_
    · rintro k y2 σ H4 hy2 ⟨⟨o4', o5', o6', o7', rfl⟩, s4, hrl4, hpl4⟩
      obtain ⟨⟨m, b, rs⟩, hz2, t, qv, rfl, ht, ⟨ra, gvs, rfl, hra, hag, hlg⟩, hm0⟩ := A2.get har hy2
      have hrel := hrow _ (List.mem_of_getElem? hz2)
      obtain ⟨hm, hne3, hl3, hrg⟩ := id hrel
      have hm : m = 0 ∨ (2 ≤ m ∧ m ≤ 100) := hm
      have hl3 : rs.length ≤ 3 := hl3
      have hra : H ra = some (.lst gvs) := hra
      have hkk := get_lt hz2
      refine ⟨t, _, rfl, .inl (.inl (s4 _ _ ht)), rfl, .int m, _, rfl, .bl b, _, rfl, .ref ra, [], rfl, rfl, ?_⟩
      refine ⟨fun σ' H' => σ' = [some (.ref p), some (.ref rl), some (.ref rr), some (.ref pl), some (.int m), some (.bl b), some (.ref ra), some (.str (S (if m = 0 then [110] else [110] ++ [32, 109, 111, 100, 32] ++ nmT m))), none] ∧ H' = H4, ?_, ?_⟩
      · refine ⟨_, rfl, _, _, rfl, rfl, _, rfl, ite2 (fun c => ?_) (fun c => ?_)⟩
        · have c := of_decide_eq_true c
          have hm' : 2 ≤ m ∧ m ≤ 100 := hm.resolve_left (by omega)
          have e0 : (toString m : Str) = S (nmT m) := num_txt m (by omega)
          have k0 := (nm_ok (n := m) (by omega) (by omega)).len
          refine ⟨_, rfl, _, _, rfl, rfl, ?_, _, rfl, _, rfl, log_ok (by omega) (by omega), _, _, rfl, rfl, ?_, ?_⟩ <;> simp only [e0, s_mod, s_n, S_cat]
          · exact s_sum (by simp)
          · exact s_sum (by simp; omega)
          · rw [if_neg (by omega)]
            exact ⟨rfl, rfl⟩
        · have c : m = 0 := by
            have : ¬ 0 < m := fun z => c (decide_eq_true z)
            omega
          subst c
          exact ⟨by simp only [s_n]; rfl, rfl⟩
      rintro σ' H' ⟨rfl, rfl⟩
      refine ⟨fun σ' H1 => σ' = [some (.ref p), some (.ref rl), some (.ref rr), some (.ref pl), some (.int m), some (.bl b), some (.ref ra), some (.str (S ((if m = 0 then [110] else [110] ++ [32, 109, 111, 100, 32] ++ nmT m) ++ (if b then [] else [32, 110, 111, 116])))), none] ∧ H1 = H', ?_, ?_⟩
      · refine ⟨_, rfl, _, rfl, ?_⟩
        cases b with
        | true =>
          refine iteF ⟨?_, rfl⟩
          simp
        | false =>
          have hlk : (if m = 0 then [110] else [110] ++ [32, 109, 111, 100, 32] ++ nmT m).length ≤ 12 := by
            split
            · decide
            · rename_i c
              have hm' : 2 ≤ m ∧ m ≤ 100 := hm.resolve_left c
              have k0 := (nm_ok (n := m) (by omega) (by omega)).len
              simp
              omega
          refine iteT ⟨_, rfl, _, _, rfl, rfl, ?_, ?_⟩ <;> simp only [s_not, S_cat]
          · exact s_sum (by simp at hlk ⊢; omega)
          · exact ⟨by simp, rfl⟩
      rintro σ' H1 ⟨rfl, rfl⟩
      have hform : relT (m, b, rs) = ((if m = 0 then [110] else [110] ++ [32, 109, 111, 100, 32] ++ nmT m) ++ (if b then [] else [32, 110, 111, 116])) ++ [32, 105, 110, 32] ++ rgsT rs := rel_form2 (m, b, rs)
      have htl : ((if m = 0 then [110] else [110] ++ [32, 109, 111, 100, 32] ++ nmT m) ++ (if b then [] else [32, 110, 111, 116]) : Tx).length ≤ 168 := by
        have h1 := (rel_len hrel).2
        rw [hform, List.length_append, List.length_append] at h1
        omega
      generalize ((if m = 0 then [110] else [110] ++ [32, 109, 111, 100, 32] ++ nmT m) ++ (if b then [] else [32, 110, 111, 116]) : Tx) = tx at hform htl
      have hgl : gvs.length = rs.length := hag.length
      refine ⟨_, rfl, .inl ⟨rfl, _, SqL.of hpl4⟩, _, rfl, _, _, rfl, rfl, ?_, ⟨_, rfl⟩, _, rfl, ra, rfl, ⟨_, SqL.of (s4 _ _ hra)⟩, fun D hD => ?_⟩
      · rw [s_in2]
        exact s_sum (by simp; omega)
      have s5 : Same H1 (upd H1 D (.lst [])) := same_new hD _
      refine lc_list (xs := gvs) (fun j H' => Same H1 H' ∧ H' D = some (.lst (sts ((rs.take j).map rgT)))) ⟨s5, upd_same⟩ (fun j H' _ ⟨s', _⟩ => SqL.of (s' _ _ (s4 _ _ hra))) ?_ ?_
      · rintro j y3 H' hy3 ⟨s', hD'⟩
        obtain ⟨g, hgj, hgv⟩ := A2.get hag hy3
        have hgj : rs[j]? = some g := hgj
        have hj := get_lt hgj
        refine ⟨rfl, _, rfl, y3, g, rfl, RgAt.same (s4.trans s') g y3 hgv, hrg g (List.mem_of_getElem? hgj), _, hD', sz_line ?_, same_mut s' hD _, ?_⟩
        · rw [sts_len, List.length_map, List.length_take]
          omega
        · rw [upd_same, take_map rgT hgj, sts_snoc]
      · rintro H' ⟨s', hD'⟩
        rw [hgl, List.take_length] at hD'
        have hgt := (rgs_signs hl3 hrg).1
        refine ⟨_, D, (rs.map rgT).map S, rfl, rfl, .inl (SqL.of hD'), ?_, ?_⟩
        · rw [s_comma]
          exact join_ok (a := [44]) (N := 8) (by decide) (by rw [List.length_map]; omega) (fun p hp => by
            obtain ⟨g, hg, rfl⟩ := List.mem_map.mp hp
            exact (rg_signs (hrg g hg)).2.1) (by decide)
        have ej : Txt.join (("," : String) : Str) ((rs.map rgT).map S) = S (rgsT rs) := by
          rw [s_comma, join_S]
          rfl
        rw [ej]
        refine ⟨_, _, rfl, rfl, ?_, pl, _, _, rfl, rfl, s' _ _ hpl4, sz_line ?_, ?_⟩
        · rw [s_in2, S_cat]
          exact s_sum (by simp; omega)
        · rw [sts_len, List.length_map, List.length_take]
          omega
        · refine ⟨⟨_, _, _, _, rfl⟩, same_mut (s4.trans s') hplH _, ?_, ?_⟩
          · rw [upd_ne plrl]
            exact s' _ _ hrl4
          · rw [upd_same, take_map relT hz2, sts_snoc, s_in2, S_cat, S_cat, hform]
    · rintro σ H4 ⟨⟨o4', o5', o6', o7', rfl⟩, s4, hrl4, hpl4⟩
      rw [hlen2, List.take_length] at hpl4
      refine ⟨_, rfl, .inl ⟨rfl, _, SqL.of hrl4⟩, ⟨_, rfl⟩, _, rfl, _, pl, (row.map relT).map S, rfl, rfl, .inl (SqL.of hpl4), ?_, rl, _, _, rfl, rfl, hrl4, sz_line ?_, ⟨_, _, _, _, _, _, rfl⟩, same_mut s4 hrl _, ?_⟩
      · rw [s_and]
        exact join_ok (a := andT) (N := 168) (by decide) (by rw [List.length_map]; omega) (fun p hp => by
          obtain ⟨g, hg, rfl⟩ := List.mem_map.mp hp
          exact (rel_len (hrow g hg)).2) (by decide)
      · rw [sts_len, List.length_map, List.length_take]
        omega
      · have ej : Txt.join ((" and " : String) : Str) ((row.map relT).map S) = S (rowT row) := by
          rw [s_and, join_S]
          rfl
        rw [upd_same, take_map rowT hz, sts_snoc, ej]
  · rintro σ H2 ⟨⟨o2, o3, o4, o5, o6, o7, rfl⟩, s2, hrl2⟩
    rw [hlen, List.take_length] at hrl2
    have hk := cat_ok hcat
    have hcl := con_len hok
    have e58 : (S [58, 32]).length = 2 := S_len _
    have ec : (S (conT x)).length = (conT x).length := S_len _
    have ej : Txt.join ((" or " : String) : Str) ((x.map rowT).map S) = S (conT x) := by
      rw [s_or, join_S]
      rfl
    refine ⟨_, rfl, p, _, 0, .str cat, rfl, rfl, .inl (.inl (s2 _ _ hp)), atI_nat (j := 0) rfl, _, _, rfl, rfl, ?_, ⟨_, rfl⟩, _, rfl, _, rl, (x.map rowT).map S, rfl, rfl, .inl (SqL.of hrl2), ?_, _, _, rfl, rfl, ?_, ?_⟩
    · rw [s_col]
      exact le_line (by have := hk.2.2.2.2; omega)
    · rw [s_or]
      exact join_ok (a := orT) (N := 346) (by decide) (by rw [List.length_map]; omega) (fun p hp => by
        obtain ⟨g, hg, rfl⟩ := List.mem_map.mp hp
        obtain ⟨_, b, c⟩ := hok.2.2 g hg
        exact row_len b c) (by decide)
    · rw [ej, s_col, str_len2]
      exact le_line (by have := hk.2.2.2.2; omega)
    · rw [ej, s_col, ru_form (cat, x)]
      exact q _ s2
end
end Mw

/-! match with patterns that are lists of written texts and names -/
namespace Mt
open PySem PySem.Spec PyProof.Rows L2
inductive It1 where
  | lit (s : Str)
  | cap (i : Nat)
def each : List It1 → List Str → Option (List (Nat × Str))
  | [], [] => some []
  | .lit s :: qs, y :: ys => if y = s then each qs ys else none
  | .cap i :: qs, y :: ys => (each qs ys).map ((i, y) :: ·)
  | _, _ => none
/-- the pattern p is q -/
inductive Pat1 (X : Cx) : Pattern → It1 → Prop
  | lit (s : Str) (j : Nat) (p1 p2 : Pos) : Pat1 X (.MatchValue (.Constant (.str s) j p1) p2) (.lit s)
  | cap (i : Nat) (n : Str) (p : Pos) (h : X.N[i]? = some n) (hl : X.env.scope.names.lookup n = some .local) : Pat1 X (.MatchAs none (some n) p) (.cap i)
inductive Pats (X : Cx) : List Pattern → List It1 → Prop
  | nil : Pats X [] []
  | cons {p : Pattern} {q : It1} {ps : List Pattern} {qs : List It1} (h : Pat1 X p q) (t : Pats X ps qs) : Pats X (p :: ps) (q :: qs)
theorem Pats.length {X : Cx} {ps : List Pattern} {qs : List It1} (h : Pats X ps qs) : ps.length = qs.length := by
  induction h with
  | nil => rfl
  | cons _ _ ih => exact congrArg (· + 1) ih
/-- names with what they are given, and the places of these names -/
inductive Caps (X : Cx) : List (Nat × Str) → List (Str × Value) → Prop
  | nil : Caps X [] []
  | cons {i : Nat} {n y : Str} {u : Value} {bs : List (Nat × Str)} {vs : List (Str × Value)} (h : X.N[i]? = some n) (hl : X.env.scope.names.lookup n = some .local) (r : RelV (.str y) u) (t : Caps X bs vs) : Caps X ((i, y) :: bs) ((n, u) :: vs)
def put (bs : List (Nat × Str)) (σ : L2.St) : L2.St := bs.foldl (fun σ b => σ.set b.1 (some (.str b.2))) σ
section
variable {X : Cx} {pins : List (Addr × Obj)}
theorem run_each {ps : List Pattern} {qs : List It1} (h : Pats X ps qs) : ∀ (ys : List Str) (us : List Value) (s : Shared) (σ : L2.St) (H : Hp) (Q : Option (List (Str × Value)) → Shared → Prop), Inv X pins σ H s → Vals (ys.map V.str) us → ys.length = qs.length →
    (∀ s', Inv X pins σ H s' → match each qs ys with
      | none => Q none s'
      | some bs => ∀ vs, Caps X bs vs → Q (some vs) s') → wpAny (model X.prog X.w) X.A (matchEach ps X.env us) Q X.xe s := by
  induction h with
  | nil =>
    intro ys us s σ H Q I r hl q
    cases ys with
    | cons y ys => cases hl
    | nil => exact wpAny_matchEach_nil (q s I [] .nil)
  | @cons p q0 ps qs h1 ht ih =>
    intro ys us s σ H Q I r hl q
    cases ys with
    | nil => cases hl
    | cons y ys =>
      have hl' : ys.length = qs.length := Nat.succ.inj hl
      cases r with
      | @cons _ u _ us r rr =>
        cases h1 with
        | lit z j p1 p2 =>
          refine wpAny_matchEach_cons (wpAny_matchPattern_Value ?_) rfl
          refine thn ((pe_str (X := X) (x := z) (j := j) (pos := p1)).run pins s σ H (fun v H1 => v = .str z ∧ H1 = H) I ⟨rfl, rfl⟩) fun x s1 ⟨v, H1, I1, rv, ev, eH⟩ => ?_
          subst ev eH
          refine thn (op_eq pins s1 σ H1 (.str y) (.str z) u x (fun v H2 => v = .bl (decide (V.str y = V.str z)) ∧ H2 = H1) I1 r rv ⟨rfl, rfl, rfl⟩) fun c s2 ⟨v, H2, I2, rc, ev, eH⟩ => ?_
          subst ev eH
          have rc : c = Value.bool (decide (V.str y = V.str z)) := rc
          subst rc
          refine wpAny_truthy_bool ?_
          by_cases e : y = z
          · rw [decide_eq_true (by rw [e])]
            show wpAny _ _ (matchEach ps X.env us) _ _ s2
            refine ih ys us s2 σ H2 _ I2 rr hl' fun s' I' => ?_
            have q' := q s' I'
            rw [show each (.lit z :: qs) (y :: ys) = each qs ys by simp [each, e]] at q'
            cases he : each qs ys with
            | none => rw [he] at q'; exact q'
            | some bs => rw [he] at q'; exact fun vs hv => q' vs hv
          · rw [decide_eq_false (fun w => e (by cases w; rfl))]
            have q' := q s2 I2
            rw [show each (.lit z :: qs) (y :: ys) = none by simp [each, e]] at q'
            exact q'
        | cap i n p hi hlo =>
          refine wpAny_matchEach_cons (wpAny_matchPattern_Capture ?_) rfl
          show wpAny _ _ (matchEach ps X.env us) _ _ s
          refine ih ys us s σ H _ I rr hl' fun s' I' => ?_
          have q' := q s' I'
          have e : each (.cap i :: qs) (y :: ys) = (each qs ys).map ((i, y) :: ·) := rfl
          rw [e] at q'
          cases he : each qs ys with
          | none => rw [he] at q'; exact q'
          | some bs => rw [he] at q'; exact fun vs hv => q' _ (.cons hi hlo r hv)
theorem run_put (hN : X.N.Nodup) {bs : List (Nat × Str)} {vs : List (Str × Value)} (h : Caps X bs vs) : ∀ (s : Shared) (σ : L2.St) (H : Hp) (Q : Unit → Shared → Prop), Inv X pins σ H s → (∀ s', Inv X pins (put bs σ) H s' → Q () s') →
    wpAny (model X.prog X.w) X.A (assignInOrder (vs.map fun (n, _) => bindName X.env n) (vs.map (·.2))) Q X.xe s := by
  induction h with
  | nil => intro s σ H Q I q; exact wpAny_assignInOrder_none (q s I)
  | @cons i n y u bs vs hi hl r ht ih =>
    intro s σ H Q I q
    refine wpAny_assignInOrder_more (wpAny_bindName (store_ok I hN hi (.inl hl) r (fun s' I' => ?_) (.inr hl)))
    exact ih s' _ H Q I' q
/-- what a row of cases asks of the thing that is matched -/
abbrev TC := V → TS
structure PCs (X : Cx) (cs : List MatchCase) (t : TC) : Prop where
  run : ∀ (pins : List (Addr × Obj)) (s : Shared) (σ : L2.St) (H : Hp) (D : Ends) (v : V) (u : Value) (first : Bool), Inv X pins σ H s → RelV v u → t v D σ H → wpAny (model X.prog X.w) X.A (matchCases cs X.env u first) (SP X pins D) X.xe s
theorem pc_nil : PCs X [] (fun _ D σ H => D.nx σ H) := ⟨fun pins s σ H D v u f I _ h => wpAny_matchCases_nil ⟨σ, H, I, h⟩⟩
/-- case _ -/
theorem pc_any {body : List Stmt} {rest : List MatchCase} {tb : TS} {p : Pos} (hb : PSs X body tb) : PCs X (⟨.MatchAs none none p, none, body⟩ :: rest) (fun _ D σ H => tb D σ H) :=
  ⟨fun pins s σ H D v u f I _ h => wpAny_matchCases_cons (wpAny_matchPattern_Capture (wpAny_assignInOrder_none (hb.run pins s σ H D I h)))⟩
def tSq (K : PySem.W.Frag) (qs : List It1) (tb : TS) (tr : TC) : TC := fun v D σ H => ∃ a ys, v = .ref a ∧ SqL K H a (ys.map V.str) ∧ match (if ys.length = qs.length then each qs ys else none) with
  | none => tr v D σ H
  | some bs => tb D (put bs σ) H
theorem pc_seq {ps : List Pattern} {qs : List It1} {body : List Stmt} {rest : List MatchCase} {tb : TS} {tr : TC} {p : Pos} (hN : X.N.Nodup) (hc : X.calm = true) (hq : Pats X ps qs) (hb : PSs X body tb) (hr : PCs X rest tr)
    (hs : ps.findIdx? (·.isStar) = none := by rfl) (hw : (ps.all fun p => p.isWildcard || (p.isStar && p.names.isEmpty)) = false := by rfl) : PCs X (⟨.MatchSequence ps p, none, body⟩ :: rest) (tSq X.K qs tb tr) := by
  refine ⟨fun pins s σ H D v u f I r h => ?_⟩
  obtain ⟨a, ys, rfl, hsq, h⟩ := h
  cases r
  obtain ⟨its, rv, pl, hz⟩ := I.list hsq
  have hlen : its.length = ys.length := by rw [← rv.length, List.length_map]
  have hfit : ((its.toArray.size : Nat) : Int) < 2 ^ 63 := by
    have : ys.length ≤ sizeLine := by simpa using hz
    have e : sizeLine ≤ 2 ^ 62 := by decide
    rw [List.size_toArray]
    omega
  refine wpAny_matchCases_cons ?_
  by_cases e : ys.length = qs.length
  · rw [if_pos e] at h
    refine matchSeq_list_hit pl.isList hfit (by rw [List.size_toArray, hlen, e, hq.length]) ?_ hs hw
    have en : ps.length = its.toArray.size := by rw [List.size_toArray, hlen, e, hq.length]
    rw [en]
    have I0 : Inv X pins σ H { s with toks := s.toks + 1 + 1 } := I.kept fun _ _ z => z
    refine PySem.W.kun_itemsOf (I.ok.hd hc) pl.isList fun h' hx => ?_
    have I1 : Inv X pins σ H { s with heap := h', toks := s.toks + 1 + 1 } := I.kept fun b o z => hx b o (Nat.ne_of_lt (Heap.lt_size z)) z
    refine run_each hq ys _ _ σ H _ I1 (by simpa using rv) e fun s' I' => ?_
    cases he : each qs ys with
    | none =>
      rw [he] at h
      exact hr.run pins s' σ H D (.ref a) (.ref a) false I' rfl h
    | some bs =>
      rw [he] at h
      exact fun vs hv => run_put hN hv s' σ H _ I' fun s'' I'' => hb.run pins s'' _ H D I'' h
  · rw [if_neg e] at h
    refine matchSeq_list_miss pl.isList hfit (by rw [List.size_toArray, hlen, hq.length]; exact e) ?_ hs hw
    exact hr.run pins _ σ H D (.ref a) (.ref a) false (I.kept fun _ _ z => z) rfl h
theorem ps_match {e : Expr} {cs : List MatchCase} {te : TE} {tc : TC} {pos : Pos} (he : PE X e te) (hc : PCs X cs tc) : PS X (.Match e cs pos) (fun D σ H => te σ H fun v H1 => tc v D σ H1) :=
  ⟨fun pins s σ H D I h => wpAny_Match (thn (he.run pins s σ H _ I h) fun u s1 ⟨v, H1, I1, r, q⟩ => hc.run pins s1 σ H1 D v u true I1 r q)⟩
end
end Mt

/-! for i, x in enumerate(xs, start=k), xs a list -/
namespace En
open PySem PySem.Spec PyProof.Rows L2
theorem typeK {M : Model} {A : Around} {E : Value → Shared → Prop} {s : Shared} {env : Env} {pos : Pos} {T : String} {e : Expr} {rest : List Expr} {kws : List Keyword} {Q : Value → Shared → Prop}
    (h : wpAny M A (spliced (backTo pos (starEach (e :: rest) env))) (fun vs s1 => wpAny M A (evalAll ((backToKw pos (keywordEach kws env)).map (·.2))) (fun ws s2 => wpAny M A (call (.type T) vs (((backToKw pos (keywordEach kws env)).filterMap (·.1)).zip ws)) Q E s2) E s1) E s)
    (he : backTo pos (starEach (e :: rest) env) = (false, eval e env) :: backTo pos (starEach rest env)) (hp : (backTo pos (starEach (e :: rest) env)).any (·.1) = false)
    (hall : (backToKw pos (keywordEach kws env)).all (·.1.isSome) = true) (hkw : (backToKw pos (keywordEach kws env)).any (·.1.isNone) = false) :
    wpAny M A (callWith pos (.type T) [] (backTo pos (starEach (e :: rest) env)) (backToKw pos (keywordEach kws env))) Q E s := by
  have h' : wpAny M A (evalArgs (.type T) true (backTo pos (starEach (e :: rest) env)) (backToKw pos (keywordEach kws env))) (fun a s1 => wpAny M A (call (.type T) a.pos a.kw) Q E s1) E s := by
    rw [he] at h ⊢
    exact evalArgs_kwB hall h
  unfold callWith
  refine wpAny_bind (wpAny_holding (thn h' fun a s1 h1 => wpAny_bind (wpAny_standAt ?_)))
  simp only [hp, hkw, Bool.or_false, List.nil_append]
  refine wpAny_bind (wpAny_pure ?_)
  exact wpAny_bind (thn h1 fun r s2 hr => wpAny_bind (wpAny_holding (wpAny_point (wpAny_pure hr))))
/-- the list at a as it stands at each turn, each item in a new pair, counted from c -/
def IteC (K : PySem.W.Frag) (a : Addr) (c : Int) : It :=
  ⟨fun i H => ∃ (xs : List V) (x : V), SqL K H a xs ∧ xs[i]? = some x, fun i H v H' => ∃ T x, v = .ref T ∧ H T = none ∧ H' = upd H T (.tup [.int (c + (i : Nat)), x]) ∧ ∀ xs, SqL K H a xs → xs[i]? = some x, fun i H => ∃ xs : List V, SqL K H a xs ∧ xs.length ≤ i⟩
theorem turnC {P : Program} {w : World} {K : PySem.W.Frag} {elts : List Expr} {kk : Nat} {tpos : Pos} {c : Int} (a e it : Addr) :
    Turn P w K (.Tuple elts kk tpos) (IteC K a c) [e, it] e (fun i h => (∃ old, IsEnum h e it (c + ((i : Nat) : Int)) old) ∧ h.IsListIter it a i ∧ e ≠ it ∧ a ≠ it ∧ e ≠ a) where
  mem := by simp
  obj := fun i h st b hb => by
    obtain ⟨⟨old, he⟩, ⟨o, ho, hc, hd⟩, _⟩ := st
    have e' : b = e ∨ b = it := by simpa using hb
    rcases e' with z | z
    · exact z ▸ ⟨_, he, fun v (q : Data.fields _ = Data.cell v) => nomatch q⟩
    · exact z ▸ ⟨o, ho, fun v (q : o.data = .cell v) => by rw [hd] at q; cases q⟩
  keep := fun i h h' st k => by
    obtain ⟨⟨old, he⟩, hi, hne⟩ := st
    exact ⟨⟨old, k e (by simp) _ he⟩, hi.at fun o q => k it (by simp) o q, hne⟩
  item := by
    intro X hP hw hK hc i pins s σ H E I hf st hg
    subst hP hw hK
    obtain ⟨⟨old, he⟩, hit, hne, hal, hea⟩ := st
    obtain ⟨xs, x, hq, hx⟩ := hg
    obtain ⟨its, rv, p, hz⟩ := I.list hq
    obtain ⟨u, hu, ru⟩ := rv.get hx
    have hlt : i < its.toArray.size := by
      have := (List.getElem?_eq_some_iff.mp hu).1
      simpa using this
    have D := Draws.list (prog := X.prog) (w := X.w) (A := X.A.in1) (I.ok.hd hc) it a hal its.toArray
    have hel : e < s.heap.objs.size := Heap.lt_size he
    have hil : it < s.heap.objs.size := by obtain ⟨_, q, _⟩ := hit; exact Heap.lt_size q
    refine wpAny_pyNext_enum_itemC D he ⟨hit, p.isList⟩ hlt hne (by simpa using ⟨hne, hea⟩) fun y h' tk hy ho hst' hT hsz hk => ?_
    have ey : y = u := by
      have hy' : its[i]? = some y := by simpa using hy
      exact Option.some.inj (hy'.symm.trans hu)
    subst ey
    refine ⟨_, rfl, wpAny_letOwnedTupleGo_enum (s := { s with heap := h', toks := tk + 1 }) ho fun h'' he' sb => ?_⟩
    have hT2 : h''.get? s.heap.objs.size = some { cls := .type "tuple", data := .seq #[.int (c + (i : Nat)) tk, y] } := (sb.2 _ (Nat.ne_of_gt hel)).trans hT
    have new : ObjOk X.prog X.w (upd H s.heap.objs.size (.tup [.int (c + (i : Nat)), x])) h'' s.heap.objs.size (.tup [.int (c + (i : Nat)), x]) :=
      ⟨by show 2 ≤ sizeLine; decide, [.int (c + (i : Nat)) tk, y], .cons ⟨_, rfl⟩ (.cons ru .nil), ⟨_, hT2, rfl, _, rfl⟩⟩
    have I1 : Inv X pins σ (upd H s.heap.objs.size (.tup [.int (c + (i : Nat)), x])) { s with heap := h'', toks := tk + 1 } :=
      I.turnedNew (ch := [e, it]) (fun b ob hb q => (sb.2 b (fun z => hb (by simp [z]))).trans (hk b ob (fun z => hb (by simp [z])) (fun z => hb (by simp [z])) q)) hf (Nat.le_refl _) new
    refine ⟨.ref s.heap.objs.size, _, I1, rfl, ⟨_, x, rfl, I.hok.fresh (Nat.le_refl _), rfl, fun ys hy => by rw [I.list_inj hy hq]; exact hx⟩, ⟨⟨y, ?_⟩, hst'.1.at fun o q => (sb.2 it (Ne.symm hne)).trans q, hne, hal, hea⟩, fun b hb => ?_⟩
    · have e1 : c + ((i + 1 : Nat) : Int) = c + (i : Int) + 1 := by omega
      rw [e1]
      exact he'
    · have e' : b = e ∨ b = it := by simpa using hb
      have hb' : b < s.heap.objs.size := by
        rcases e' with z | z
        · exact z ▸ hel
        · exact z ▸ hil
      rw [upd_ne (Nat.ne_of_lt hb')]
      exact (hf b hb).1
  done := by
    intro X hP hw hK hc i pins s σ H E I hf st hg
    subst hP hw hK
    obtain ⟨⟨old, he⟩, hit, hne, hal, hea⟩ := st
    obtain ⟨xs, hq, hx⟩ := hg
    obtain ⟨its, rv, p, hz⟩ := I.list hq
    obtain ⟨f0, f1, f2, f3, f4, f5⟩ := hf it (by simp)
    have hl := rv.length
    have hT : s.TypeIs (.ref e) "enumerate" := ⟨_, he, rfl⟩
    unfold pyNext
    refine wpAny_bind (wpAny_attempt (wpAny_callSpecial?_slot (name := Str.ofString "__next__") hT F.slot_enumerate_next (wpAny_call_entry F.slot_enumerate_next hT F.entry_enumerate_next ?_ (F.args_enumerate_next_1 _))))
    show wpAny _ _ (field (.ref e) 2 >>= _) _ _ _
    refine wpAny_bind (wpAny_field he rfl (x := .ref it) rfl ?_)
    refine wpAny_bind (wpAny_nextOf_list_end (I.ok.hd hc) hit p.isList (by simp; omega) fun h' x eb hx' => ?_)
    obtain ⟨o, ho, hcl⟩ := hx'
    refine wpAny_bind (wpAny_isInstance (T := "StopIteration") (b := true) ⟨o, ho, hcl⟩ isSubtype_stop ?_)
    exact wpAny_pure ⟨rfl, I.turned (t' := s.toks) (fun b o hb q => eb b o hb q) f0 f1 f3 f4 f5⟩
  self := fun A i s Q E st h => by
    obtain ⟨⟨_, he⟩, _⟩ := st
    exact wpAny_pyIter_enum he h
def iEnC (K : PySem.W.Frag) (ta tk : TA) : TI := fun σ H R => ta σ H fun vs H1 => tk σ H1 fun zs H2 => ∃ a xs c, vs = [.ref a] ∧ zs = [.int c] ∧ SqL K H2 a xs ∧ 0 ≤ c ∧ c < 1000000 ∧ R (IteC K a c) H2
theorem pi_enumC {X : Cx} {e : Expr} {ta tk : TA} {p pos tpos : Pos} {elts : List Expr} {kk : Nat} {kws : List Keyword} (hg : Gl X "enumerate") (hm : X.mg "enumerate" = none) (ha : PA X [e] ta) (hk : PK X kws tk)
    (he : backTo pos (starEach [e] X.env) = (false, eval e X.env) :: backTo pos (starEach [] X.env) := by rfl) (hp : (backTo pos (starEach [e] X.env)).any (·.1) = false := by rfl)
    (hall : (backToKw pos (keywordEach kws X.env)).all (·.1.isSome) = true := by rfl) (hkw : (backToKw pos (keywordEach kws X.env)).any (·.1.isNone) = false := by rfl)
    (hks : (backToKw pos (keywordEach kws X.env)).filterMap (·.1) = [Str.ofString "start"] := by rfl) :
    PI X (.Tuple elts kk tpos) (.Call (.Name "enumerate" p) [e] kws pos) (iEnC X.K ta tk) := by
  refine ⟨fun pins s σ H R I h => ?_⟩
  refine wpAny_Call_Name_kw (ld_blt I hg hm boot_enumerate ?_ (by decide) (by decide))
  refine typeK (thn (ha.run pos pins s σ H _ I h) fun us s1 ⟨vs, H1, I1, r1, q1⟩ => thn (hk.run pos pins s1 σ H1 _ I1 q1) fun ws s2 ⟨zs, H2, I2, r2, q2⟩ => ?_) he hp hall hkw
  obtain ⟨a, xs, c, rfl, rfl, hq, c0, c1, q⟩ := q2
  rw [hks]
  cases r1 with
  | cons r rr =>
    cases rr
    cases r
    cases r2 with
    | cons rc rr =>
      cases rr
      obtain ⟨t, rfl⟩ := rc
      obtain ⟨its, rv, p', hz⟩ := I2.list hq
      have hla : a < s2.heap.objs.size := by obtain ⟨o, ho, _⟩ := p'.isList; exact Heap.lt_size ho
      refine enum_begins_start (begins_list a its.toArray) p'.isList (by omega) (by omega) fun h' he' hit hsz hkp => wpAny_pyIter_enum he' ?_
      have I3 : Inv X pins σ H2 { s2 with heap := h' } := I2.kept (t' := s2.toks) hkp
      refine ⟨s2.heap.objs.size + 1, [s2.heap.objs.size + 1, s2.heap.objs.size], _, _, H2, rfl, I3, turnC a (s2.heap.objs.size + 1) s2.heap.objs.size (c := c), ⟨⟨.none, by rw [Int.natCast_zero, Int.add_zero]; exact he'⟩, ⟨_, hit, rfl, rfl⟩, Nat.succ_ne_self _, Nat.ne_of_lt hla, Nat.ne_of_gt (Nat.lt_succ_of_lt hla)⟩, fun b hb => ?_, q⟩
      have e' : b = s2.heap.objs.size + 1 ∨ b = s2.heap.objs.size := by simpa using hb
      have hle : s2.heap.objs.size ≤ b := by
        rcases e' with z | z
        · exact z ▸ Nat.le_add_right _ _
        · exact z ▸ Nat.le_refl _
      exact I2.fpOk hle (I2.hok.fresh hle)
end En

namespace Mw
open PySem L2 SX
/-- a comprehension over the signs of a text -/
theorem lc_str {x : Str} {g : TG} {tt : TT} {te : TE} {vs : List Nat} {σ : L2.St} {H1 : Hp} {D : Addr} {Qd : Hp → Prop} (Pv : Nat → Hp → Prop) (h0 : Pv 0 (upd H1 D (.lst [])))
    (hs : ∀ i c H, x.cps[i]? = some c → Pv i H → g (.str ⟨#[c]⟩) (wipe σ vs) H fun σ2 H2 => wipe σ2 vs = wipe σ vs ∧ tt σ2 H2 fun b H3 => if b = true then te σ2 H3 fun y H4 => ∃ acc, H4 D = some (.lst acc) ∧ acc.length < sizeLine ∧ Pv (i + 1) (upd H4 D (.lst (acc ++ [y]))) else Pv (i + 1) H3) (hd : ∀ H, Pv x.cps.size H → Qd H) :
    ∃ W : Nat → Nat → Hp → Prop, (∃ m, W 0 m (upd H1 D (.lst []))) ∧ ∀ i m H, W i m H →
      ((Its x).stop i H ∧ Qd H) ∨ ((Its x).go i H ∧ ∃ Nx : Hp → Prop, (∀ H', Nx H' → ∃ m', m' < m ∧ W (i + 1) m' H') ∧ ∀ v H', (Its x).yld i H v H' → g v (wipe σ vs) H' fun σ2 H2 => wipe σ2 vs = wipe σ vs ∧ tt σ2 H2 fun b H3 =>
        if b = true then te σ2 H3 fun y H4 => ∃ acc, H4 D = some (.lst acc) ∧ acc.length < sizeLine ∧ Nx (upd H4 D (.lst (acc ++ [y]))) else Nx H3) := by
  refine ⟨fun i m H => m = x.cps.size - i ∧ i ≤ x.cps.size ∧ Pv i H, ⟨x.cps.size, rfl, Nat.zero_le _, h0⟩, ?_⟩
  rintro i m H ⟨rfl, hi, p⟩
  by_cases hlt : i < x.cps.size
  · refine .inr ⟨hlt, Pv (i + 1), fun H' p' => ⟨x.cps.size - (i + 1), by omega, rfl, hlt, p'⟩, fun v H' y => ?_⟩
    obtain ⟨rfl, c, hc, rfl⟩ := y
    exact hs i c _ hc p
  · have e : i = x.cps.size := by omega
    subst e
    exact .inl ⟨Nat.le_refl _, hd H p⟩
theorem s_zero : (("0" : String) : Str) = S [48] := by decide +kernel
theorem s_figs : ∀ c, 48 ≤ c → c ≤ 57 → c ∈ (("0123456789" : String) : Str).cps.toList := by
  intro c h1 h2
  have e : (("0123456789" : String) : Str).cps.toList = [48, 49, 50, 51, 52, 53, 54, 55, 56, 57] := by decide +kernel
  rw [e]
  have : c = 48 ∨ c = 49 ∨ c = 50 ∨ c = 51 ∨ c = 52 ∨ c = 53 ∨ c = 54 ∨ c = 55 ∨ c = 56 ∨ c = 57 := by omega
  rcases this with rfl | rfl | rfl | rfl | rfl | rfl | rfl | rfl | rfl | rfl <;> simp
section
variable {P : Program} {w : World} {K : PySem.W.Frag} {mg : Str → Option Value} {base : Heap} {C : Addr}
/-! ### parse_number -/
abbrev sPn : Stmt := top 16
abbrev nPn : List Str := ["figures", "line", "wrong", "figure"]
theorem scPn : FnScope nPn ["figures", "line"] (defScope sPn) := ⟨rfl, rfl, rfl, by decide +kernel, rfl, by decide +kernel, by decide +kernel⟩
def spPn : Sp := fun vs H Q _ => ∃ n l : Int, vs = [.str (S (nmT n)), .int l] ∧ 0 ≤ n ∧ n ≤ 100 ∧ ∀ H', Same H H' → Q (.int n) H'
theorem ok_pn {tF tM : Tok} {f : Addr} {fd : FuncData} (F : Fun K "parse_number" "parse_number" sPn f fd) (mFig : mg "FIGURES" = some (.str "0123456789" tF)) (mMost : mg "MOST_FIGURES" = some (.int 4 tM)) (ml : mg "len" = none) (mi : mg "int" = none) : FnOk P w K mg base CX0 1 f fd ["figures", "line"] spPn := by
  refine F.ok scPn (fun vs H Q E h => ?_) (fun cdv A outer s H vs Q E hr h => ?_)
  · obtain ⟨n, l, rfl, _⟩ := h
    rfl
  obtain ⟨n, l, rfl, h0, h1, q⟩ := h
  have nd := scPn.nd
  have k := nm_ok h0 h1
  have kl := k.len
  refine ⟨_, (pss_cons (ps_setLc (i := 2) (own := [("figure", 3)]) (g := (gName 3))   rfl nd rfl rfl (sw_true rfl rfl rfl (by decide +kernel)) (pi_str (pv 0)) (blkOk_by (N := nPn) (sc := defScope sPn) (by decide +kernel)) (fun _ _ _ _ _ => (pg_name (i := 3) nd rfl (.inl rfl))) (fun _ _ _ _ _ => (pts_one (pt_cmpR op_notIn_sign (pv 3) (pe_glob rfl mFig (v := .str "0123456789") ⟨_, rfl⟩) (by rfl)))) (fun _ _ _ _ _ => (pv 3)))
      (pss_cons (ps_if (PW.pt (pw_or (pt_truth (pv 2) (by intro _; rfl)) (pw_or1 (pt_not (pt_chain op_le op_le pe_int (pe_callB call_len_str (by rfl) ml PySem.boot_len (pa_cons (pv 0) pa_nil)) (pe_glob rfl mMost (v := .int 4) ⟨_, rfl⟩)))))) (pss_one (ps_never)) pss_nil)
      (pss_cons (ps_if (PW.pt (pw_and (pt_cmpR op_ne (pv 0) pe_str (nomark _)) (pw_and1 (pt_cmpR op_eq (pe_ix ix_str (pv 0) pe_int (fun _ _ => rfl)) pe_str (nomark _))))) (pss_one (ps_never)) pss_nil)
      (pss_one (ps_ret (pe_callTy call_int_str (by rfl) mi (by decide +kernel) (pa_cons (pv 0) pa_nil))))))), ?_⟩
  refine ⟨_, rfl, _, rfl, fun D hD => ?_⟩
  have s1 : Same H (upd H D (.lst [])) := same_new hD _
  refine lc_str (fun i H' => Same H H' ∧ H' D = some (.lst [])) ⟨s1, upd_same⟩ ?_ ?_
  · rintro i c H' hc ⟨s', hD'⟩
    have hc' : c ∈ nmT n := by
      have : (S (nmT n)).cps[i]? = (nmT n)[i]? := by simp
      rw [this] at hc
      exact List.mem_of_getElem? hc
    obtain ⟨c1, c2⟩ := k.fig hc'
    refine ⟨rfl, _, rfl, c, _, rfl, rfl, _, rfl, ?_⟩
    rw [decide_eq_true (s_figs c c1 c2)]
    exact iteF ⟨s', hD'⟩
  · rintro H' ⟨s', hD'⟩
    have hn1 : 1 ≤ (nmT n).length := List.length_pos_iff.mpr k.ne
    have el : ((S (nmT n)).length : Int) = ((nmT n).length : Int) := by rw [S_len]
    refine ⟨_, rfl, false, .inl ⟨[], SqL.of hD', rfl⟩, iteF ⟨_, rfl, _, rfl, s_line (by omega), _, _, rfl, rfl, _, rfl, ?_⟩⟩
    rw [el, decide_eq_true (show (1 : Int) ≤ ((nmT n).length : Int) by omega)]
    refine iteT ⟨_, _, rfl, rfl, _, rfl, ?_⟩
    rw [decide_eq_true (show ((nmT n).length : Int) ≤ 4 by omega)]
    refine iteF ?_
    have dz : ∀ a b : Tx, decide (V.str (S a) = V.str (S b)) = decide (a = b) := fun a b => by
      by_cases e : a = b
      · rw [e, decide_eq_true rfl, decide_eq_true rfl]
      · rw [decide_eq_false e, decide_eq_false fun z => e (S_inj (str_eq z))]
    refine ⟨_, rfl, rfl, _, rfl, ?_⟩
    rw [s_zero, dz]
    by_cases e : nmT n = [48]
    · rw [decide_eq_true e]
      exact iteF (iteF ⟨_, rfl, _, n, rfl, num_val h0 h1, by rw [S_len]; omega, q H' s'⟩)
    · rw [decide_eq_false e]
      cases hn : nmT n with
      | nil => exact absurd hn k.ne
      | cons c r =>
        have hc : c ≠ 48 := by
          intro e2
          rcases k.hd with h | h
          · rw [hn, e2] at h
            exact h rfl
          · have : n = 0 := by omega
            rw [this] at e
            exact e (TL.numL_lt (n := 0) (by decide))
        refine iteT ⟨_, rfl, _, 0, c, rfl, rfl, ?_, ?_, rfl, _, rfl, ?_⟩
        · rw [← hn]
          exact s_line (by omega)
        · exact atI_nat (j := 0) rfl
        · have e3 : decide (V.str (⟨#[c]⟩ : Str) = V.str (S [48])) = false := by
            have := dz [c] [48]
            rw [decide_eq_false (show ¬ [c] = [48] by simpa using hc)] at this
            exact this
          rw [e3]
          refine iteF ⟨_, rfl, _, n, rfl, ?_, ?_, q H' s'⟩
          · rw [← hn]
            exact num_val h0 h1
          · rw [← hn, S_len]
            omega
end
end Mw

namespace Mw
open PySem L2 SX
section
variable {P : Program} {w : World} {K : PySem.W.Frag} {mg : Str → Option Value} {base : Heap} {C : Addr}
/-! ### parse_modulus -/
abbrev sPm : Stmt := top 17
theorem scPm : FnScope ["figures", "line", "modulus"] ["figures", "line"] (defScope sPm) := ⟨rfl, rfl, rfl, by decide +kernel, rfl, by decide +kernel, by decide +kernel⟩
def spPm : Sp := fun vs H Q _ => ∃ n l : Int, vs = [.str (S (nmT n)), .int l] ∧ 2 ≤ n ∧ n ≤ 100 ∧ ∀ H', Same H H' → Q (.int n) H'
theorem ok_pm {tL tH : Tok} {f fN : Addr} {fd fdN : FuncData} (F : Fun K "parse_modulus" "parse_modulus" sPm f fd)
    (GN : FnOk P w K mg base CX0 1 fN fdN ["figures", "line"] spPn) (bN : Binds K fdN ["figures", "line"] []) (kN : PySem.W.keepIn K (.ref fN) = true) (mN : mg "parse_number" = some (.ref fN))
    (mLo : mg "LEAST_MODULUS" = some (.int 2 tL)) (mHi : mg "MOST_MODULUS" = some (.int 100 tH)) : FnOk P w K mg base CX0 2 f fd ["figures", "line"] spPm := by
  refine F.ok scPm (fun vs H Q E h => ?_) (fun cdv A outer s H vs Q E hr h => ?_)
  · obtain ⟨n, l, rfl, _⟩ := h
    rfl
  obtain ⟨n, l, rfl, h0, h1, q⟩ := h
  have nd := scPm.nd
  refine ⟨_, (pss_cons (ps_set (i := 2) nd rfl (.inl rfl) (pe_call GN hr rfl mN kN bN .nil pass0 (pa_cons (pv 0) (pa_cons (pv 1) pa_nil))))
      (pss_cons (ps_if (pt_not (pt_chain op_le op_le (pe_glob rfl mLo (v := .int 2) ⟨_, rfl⟩) (pv 2) (pe_glob rfl mHi (v := .int 100) ⟨_, rfl⟩))) (pss_one (ps_never)) pss_nil)
      (pss_one (ps_ret (pv 2))))), ?_⟩
  refine ⟨_, rfl, _, rfl, n, l, rfl, by omega, h1, fun H' s' => ⟨_, rfl, _, _, rfl, rfl, _, rfl, ?_⟩⟩
  rw [decide_eq_true h0]
  refine iteT ⟨_, _, rfl, rfl, _, rfl, ?_⟩
  rw [decide_eq_true h1]
  exact iteF ⟨_, rfl, q H' s'⟩
/-! ### parse_range -/
abbrev sPr : Stmt := top 18
theorem scPr : FnScope ["text", "line", "low", "dots", "high", "bounds"] ["text", "line"] (defScope sPr) := ⟨rfl, rfl, rfl, by decide +kernel, rfl, by decide +kernel, by decide +kernel⟩
def spPr : Sp := fun vs H Q _ => ∃ (r : Rg) (l : Int), vs = [.str (S (rgT r)), .int l] ∧ RgOk r ∧ ∀ p H', Same H H' → H p = none → H' p = some (.tup [.int r.1, .int r.2]) → Q (.ref p) H'
theorem ok_pr {f fN : Addr} {fd fdN : FuncData} (F : Fun K "parse_range" "parse_range" sPr f fd)
    (GN : FnOk P w K mg base CX0 1 fN fdN ["figures", "line"] spPn) (bN : Binds K fdN ["figures", "line"] []) (kN : PySem.W.keepIn K (.ref fN) = true) (mN : mg "parse_number" = some (.ref fN)) : FnOk P w K mg base CX0 2 f fd ["text", "line"] spPr := by
  refine F.ok scPr (fun vs H Q E h => ?_) (fun cdv A outer s H vs Q E hr h => ?_)
  · obtain ⟨n, l, rfl, _⟩ := h
    rfl
  obtain ⟨r, l, rfl, hok, q⟩ := h
  have nd := scPr.nd
  obtain ⟨h0, h1, h2⟩ := id hok
  refine ⟨_, (pss_cons (ps_asg (pe_partition (pv 0) pe_str) (pg_tup rfl (pgs_cons (pg_name (i := 2) nd rfl (.inl rfl)) (pgs_cons (pg_name (i := 3) nd rfl (.inl rfl)) (pgs_cons (pg_name (i := 4) nd rfl (.inl rfl)) pgs_nil)))))
      (pss_cons (ps_if (pt_not (pt_truth (pv 3) (by intro _; rfl))) (pss_one (ps_ret (pe_tup (pa_cons (pe_call GN hr rfl mN kN bN .nil pass0 (pa_cons (pv 2) (pa_cons (pv 1) pa_nil))) (pa_cons (pe_call GN hr rfl mN kN bN .nil pass0 (pa_cons (pv 2) (pa_cons (pv 1) pa_nil))) pa_nil))))) pss_nil)
      (pss_cons (ps_set (i := 5) nd rfl (.inl rfl) (pe_tup (pa_cons (pe_call GN hr rfl mN kN bN .nil pass0 (pa_cons (pv 2) (pa_cons (pv 1) pa_nil))) (pa_cons (pe_call GN hr rfl mN kN bN .nil pass0 (pa_cons (pv 4) (pa_cons (pv 1) pa_nil))) pa_nil))))
      (pss_cons (ps_if (pt_cmpR op_ge (pe_ix ix_tup (pv 5) pe_int (fun _ _ => rfl)) (pe_ix ix_tup (pv 5) pe_int (fun _ _ => rfl)) (nomark _)) (pss_one (ps_never)) pss_nil)
      (pss_one (ps_ret (pv 5))))))), ?_⟩
  refine ⟨_, rfl, ⟨_, rfl⟩, _, _, rfl, rfl, rfl, s_line (by have := (rg_signs hok).2.1; omega), fun p hp => ?_⟩
  rw [s_lit2]
  have s1 := fun o => same_new hp o
  by_cases e : r.1 = r.2
  · rw [rg_eq hok e]
    refine ⟨p, _, rfl, .inl (.inl upd_same), rfl, _, _, rfl, _, _, rfl, _, [], rfl, rfl, ?_⟩
    refine ⟨_, rfl, false, ⟨Nat.zero_le _, rfl⟩, iteT ⟨_, rfl, _, rfl, r.1, l, rfl, h0, by omega, fun H2 s2 => ⟨_, rfl, _, rfl, r.1, l, rfl, h0, by omega, fun H3 s3 => ⟨by show 2 ≤ sizeLine; decide, fun t ht => ?_⟩⟩⟩⟩
    refine q t _ ((((s1 _).trans s2).trans s3).trans (same_new ht _)) ((((s1 _).trans s2).trans s3).free ht) ?_
    rw [upd_same, ← e]
  · rw [rg_ne hok e]
    refine ⟨p, _, rfl, .inl (.inl upd_same), rfl, _, _, rfl, _, _, rfl, _, [], rfl, rfl, ?_⟩
    refine ⟨_, rfl, true, ⟨by rw [S_len]; exact Nat.le_trans (show 2 ≤ 100 by decide) (by decide), rfl⟩, iteF ⟨_, rfl, _, rfl, r.1, l, rfl, h0, by omega, fun H2 s2 => ⟨_, rfl, _, rfl, r.2, l, rfl, by omega, by omega, fun H3 s3 => ⟨by show 2 ≤ sizeLine; decide, fun t ht => ?_⟩⟩⟩⟩
    have s4 := (((s1 (.tup [.str (S (nmT r.1)), .str (S [46, 46]), .str (S (nmT r.2))])).trans s2).trans s3)
    refine ⟨_, rfl, t, _, 0, .int r.1, rfl, rfl, .inl (.inl upd_same), atI_nat (j := 0) rfl, _, rfl, t, _, 1, .int r.2, rfl, rfl, .inl (.inl upd_same), atI_nat (j := 1) rfl, _, _, rfl, rfl, _, rfl, ?_⟩
    rw [decide_eq_false (show ¬ r.2 ≤ r.1 by omega)]
    exact iteF ⟨_, rfl, q t _ (s4.trans (same_new ht _)) (s4.free ht) upd_same⟩
end
end Mw

namespace Mw
open PySem L2 SX
theorem s_nt : (("not" : String) : Str) = S [110, 111, 116] := by decide +kernel
theorem s_md : (("mod" : String) : Str) = S [109, 111, 100] := by decide +kernel
section
variable {P : Program} {w : World} {K : PySem.W.Frag} {mg : Str → Option Value} {base : Heap} {C : Addr}
/-! ### parse_ranges -/
abbrev sPs : Stmt := top 19
abbrev nPs : List Str := ["text", "line", "ranges", "part"]
theorem scPs : FnScope nPs ["text", "line"] (defScope sPs) := ⟨rfl, rfl, rfl, by decide +kernel, rfl, by decide +kernel, by decide +kernel⟩
def spPs : Sp := fun vs H Q _ => ∃ (rs : List Rg) (l : Int), vs = [.str (S (rgsT rs)), .int l] ∧ rs ≠ [] ∧ rs.length ≤ 3 ∧ (∀ r ∈ rs, RgOk r) ∧ ∀ v H', Same H H' → Ls RgAt (fr H H') rs v → Q v H'
theorem ok_ps {tM : Tok} {f fR : Addr} {fd fdR : FuncData} (F : Fun K "parse_ranges" "parse_ranges" sPs f fd)
    (GR : FnOk P w K mg base CX0 2 fR fdR ["text", "line"] spPr) (bR : Binds K fdR ["text", "line"] []) (kR : PySem.W.keepIn K (.ref fR) = true) (mR : mg "parse_range" = some (.ref fR))
    (mMost : mg "MOST_RANGES" = some (.int 8 tM)) (ml : mg "len" = none) : FnOk P w K mg base CX0 3 f fd ["text", "line"] spPs := by
  refine F.ok scPs (fun vs H Q E h => ?_) (fun cdv A outer s H vs Q E hr h => ?_)
  · obtain ⟨rs, l, rfl, _⟩ := h
    rfl
  obtain ⟨rs, l, rfl, hne, hl3, hok, q⟩ := h
  have nd := scPs.nd
  refine ⟨_, (pss_cons (ps_setLc (i := 2) (own := [("part", 3)]) (g := (gName 3)) (tt := tYes)  rfl nd rfl rfl (sw_true rfl rfl rfl (by decide +kernel)) (pi_list (pe_split (pv 0) pe_str)) (blkOk_by (N := nPs) (sc := defScope sPs) (by decide +kernel)) (fun _ _ _ _ _ => (pg_name (i := 3) nd rfl (.inl rfl))) (fun _ _ _ _ _ => pts_nil) (fun _ _ _ _ _ => (pe_call GR hr rfl mR kR bR .nil pass0 (pa_cons (pv 3) (pa_cons (pv 1) pa_nil)))))
      (pss_cons (ps_if (pt_cmpR op_gt (pe_callB call_len_seq (by rfl) ml PySem.boot_len (pa_cons (pv 2) pa_nil)) (pe_glob rfl mMost (v := .int 8) ⟨_, rfl⟩) (nomark _)) (pss_one (ps_never)) pss_nil)
      (pss_one (ps_ret (pv 2))))), ?_⟩
  have hgl := (rgs_signs hl3 hok).1
  refine ⟨_, rfl, ⟨_, rfl⟩, _, _, rfl, rfl, rfl, ?_, fun lp hlp => ⟨lp, rfl, ?_⟩⟩
  · rw [S_len]
    exact le_line (by omega)
  rw [s_comma, rgs_split hne hok]
  have s1 : ∀ o, Same H (upd H lp o) := fun o => same_new hlp o
  refine ⟨⟨_, SqL.of upd_same⟩, fun D hD => ?_⟩
  generalize hH1 : upd H lp (.lst (((rs.map rgT).map S).map V.str)) = H1 at hD
  have s1 : Same H H1 := by rw [← hH1]; exact same_new hlp _
  have hlp1 : H1 lp = some (.lst (((rs.map rgT).map S).map V.str)) := by rw [← hH1]; exact upd_same
  generalize hH2 : upd H1 D (.lst []) = HD
  have s2D : Same H1 HD := by rw [← hH2]; exact same_new hD _
  have hDD : HD D = some (.lst []) := by rw [← hH2]; exact upd_same
  rw [← hH2]
  refine lc_list (xs := ((rs.map rgT).map S).map V.str) (fun i H' => ∃ vs, Same H1 H' ∧ (∀ b, H' b = none → HD b = none) ∧ H' D = some (.lst vs) ∧ A2 (RgAt (fr HD H')) (rs.take i) vs) ⟨[], by rw [hH2]; exact s2D, by rw [hH2]; exact fun _ h => h, upd_same, rfl⟩ (fun i H' _ ⟨_, s', _⟩ => SqL.of (s' _ _ hlp1)) ?_ ?_
  · rintro i y H' hy ⟨vs, s', dm, hD', ha'⟩
    rw [List.getElem?_map, List.getElem?_map, List.getElem?_map] at hy
    cases hz : rs[i]? with
    | none => rw [hz] at hy; cases hy
    | some rg =>
      rw [hz] at hy
      cases hy
      have hi := get_lt hz
      have hvl := ha'.length
      rw [List.length_take] at hvl
      refine ⟨rfl, _, rfl, _, rfl, rg, l, rfl, hok rg (List.mem_of_getElem? hz), fun p H2 s2 hp0 hp2 => ⟨vs, s2 _ _ hD', sz_line (by omega), vs ++ [.ref p], same_mut (s'.trans s2) hD _, fun b hb => dm b (s2.free (upd_none hb)), upd_same, ?_⟩⟩
      have pD : p ≠ D := by rintro rfl; rw [hD'] at hp0; cases hp0
      rw [List.take_succ, hz]
      refine A2.snoc (ha'.mono fun x v h => RgAt.same ((fr_same s2).trans (fr_mut hDD _)) x v h) ⟨p, rfl, ?_⟩
      rw [fr_new (dm p hp0), upd_ne pD]
      exact hp2
  · rintro H' ⟨vs, s', dm, hD', ha'⟩
    rw [show rs.take (((rs.map rgT).map S).map V.str).length = rs by simp] at ha'
    have hvl := ha'.length
    refine ⟨_, rfl, D, _, rfl, .inl (SqL.of hD'), _, _, rfl, rfl, _, rfl, ?_⟩
    rw [decide_eq_false (show ¬ (8 : Int) < (vs.length : Int) by omega)]
    exact iteF ⟨_, rfl, q _ _ (s1.trans s') ⟨D, vs, rfl, fr_new_obj (s1.free hD) hD', ha'.mono fun x v h => RgAt.same (fr_dom fun b hb => s1.free (s2D.free hb)) x v h, by omega⟩⟩
/-! ### parse_relation -/
abbrev sPl : Stmt := top 20
abbrev nPl : List Str := ["text", "line", "ranges", "modulus"]
theorem scPl : FnScope nPl ["text", "line"] (defScope sPl) := ⟨rfl, rfl, rfl, by decide +kernel, rfl, by decide +kernel, by decide +kernel⟩
def spPl : Sp := fun vs H Q _ => ∃ (x : Rel) (l : Int), vs = [.str (S (relT x)), .int l] ∧ RelOk x ∧ ∀ v H', Same H H' → RelAt (fr H H') x v → Q v H'
theorem ok_pl {f fS fM : Addr} {fd fdS fdM : FuncData} (F : Fun K "parse_relation" "parse_relation" sPl f fd)
    (GS : FnOk P w K mg base CX0 3 fS fdS ["text", "line"] spPs) (bS : Binds K fdS ["text", "line"] []) (kS : PySem.W.keepIn K (.ref fS) = true) (mS : mg "parse_ranges" = some (.ref fS))
    (GM : FnOk P w K mg base CX0 2 fM fdM ["figures", "line"] spPm) (bM : Binds K fdM ["figures", "line"] []) (kM : PySem.W.keepIn K (.ref fM) = true) (mM : mg "parse_modulus" = some (.ref fM)) : FnOk P w K mg base CX0 4 f fd ["text", "line"] spPl := by
  refine F.ok scPl (fun vs H Q E h => ?_) (fun cdv A outer s H vs Q E hr h => ?_)
  · obtain ⟨x, l, rfl, _⟩ := h
    rfl
  obtain ⟨⟨m, b, rs⟩, l, rfl, hok, q⟩ := h
  have nd := scPl.nd
  refine ⟨_, pss_one (Mt.ps_match (pe_split (pv 0) pe_str) (Mt.pc_seq nd rfl (.cons (.lit "n" _ _ _) (.cons (.lit "in" _ _ _) (.cons (.cap 2 "ranges" _ rfl rfl) .nil))) (pss_one (ps_ret (pe_tup (pa_cons pe_int (pa_cons pe_bl (pa_cons (pe_call GS hr rfl mS kS bS .nil pass0 (pa_cons (pv 2) (pa_cons (pv 1) pa_nil))) pa_nil)))))) (Mt.pc_seq nd rfl (.cons (.lit "n" _ _ _) (.cons (.lit "not" _ _ _) (.cons (.lit "in" _ _ _) (.cons (.cap 2 "ranges" _ rfl rfl) .nil)))) (pss_one (ps_ret (pe_tup (pa_cons pe_int (pa_cons pe_bl (pa_cons (pe_call GS hr rfl mS kS bS .nil pass0 (pa_cons (pv 2) (pa_cons (pv 1) pa_nil))) pa_nil)))))) (Mt.pc_seq nd rfl (.cons (.lit "n" _ _ _) (.cons (.lit "mod" _ _ _) (.cons (.cap 3 "modulus" _ rfl rfl) (.cons (.lit "in" _ _ _) (.cons (.cap 2 "ranges" _ rfl rfl) .nil))))) (pss_one (ps_ret (pe_tup (pa_cons (pe_call GM (hr.mono (by decide)) rfl mM kM bM .nil pass0 (pa_cons (pv 3) (pa_cons (pv 1) pa_nil))) (pa_cons pe_bl (pa_cons (pe_call GS hr rfl mS kS bS .nil pass0 (pa_cons (pv 2) (pa_cons (pv 1) pa_nil))) pa_nil)))))) (Mt.pc_seq nd rfl (.cons (.lit "n" _ _ _) (.cons (.lit "mod" _ _ _) (.cons (.cap 3 "modulus" _ rfl rfl) (.cons (.lit "not" _ _ _) (.cons (.lit "in" _ _ _) (.cons (.cap 2 "ranges" _ rfl rfl) .nil)))))) (pss_one (ps_ret (pe_tup (pa_cons (pe_call GM (hr.mono (by decide)) rfl mM kM bM .nil pass0 (pa_cons (pv 3) (pa_cons (pv 1) pa_nil))) (pa_cons pe_bl (pa_cons (pe_call GS hr rfl mS kS bS .nil pass0 (pa_cons (pv 2) (pa_cons (pv 1) pa_nil))) pa_nil)))))) (Mt.pc_any (pss_one ps_never))))))), ?_⟩
  obtain ⟨hm, hne, hl3, hrg⟩ := id hok
  have hm : m = 0 ∨ (2 ≤ m ∧ m ≤ 100) := hm
  have hne : rs ≠ [] := hne
  have hl3 : rs.length ≤ 3 := hl3
  have hrg : ∀ r ∈ rs, RgOk r := hrg
  have hrl := (rel_len hok).2
  refine ⟨_, rfl, ⟨_, rfl⟩, _, _, rfl, rfl, rfl, ?_, fun lp hlp => ?_⟩
  · rw [S_len]
    exact le_line (by omega)
  rw [s_sp, rel_split hok]
  have hw : relW (m, b, rs) = [110] :: ((if m = 0 then [] else [[109, 111, 100], nmT m]) ++ ((if b then [] else [[110, 111, 116]]) ++ [[105, 110], rgsT rs])) := rfl
  rw [hw]
  generalize hH1 : upd H lp _ = H1
  have s1 : Same H H1 := by rw [← hH1]; exact same_new hlp _
  have mk : ∀ (v : V) (H2 : Hp) (t : Addr), Same H1 H2 → H2 t = none → Ls RgAt (fr H1 H2) rs v → 0 ≤ m → Q (.ref t) (upd H2 t (.tup [.int m, .bl b, v])) := fun v H2 t s2 ht hv h0 =>
    q (.ref t) _ ((s1.trans s2).trans (same_new ht _)) ⟨t, v, rfl, fr_new_obj ((s1.trans s2).free ht) upd_same, Ls.same RgAt.same ((fr_dom fun b hb => s1.free hb).trans (fr_same (same_new ht _))) hv, h0⟩
  by_cases c : m = 0
  · subst c
    cases b with
    | true =>
      have hlp1 : H1 lp = some (.lst ((([[110], [105, 110], rgsT rs] : List Tx).map S).map V.str)) := by rw [← hH1]; exact upd_same
      refine ⟨lp, _, rfl, SqL.of hlp1, ?_⟩
      have e : (if (([[110], [105, 110], rgsT rs] : List Tx).map S).length = [Mt.It1.lit "n", .lit "in", .cap 2].length then Mt.each [Mt.It1.lit "n", .lit "in", .cap 2] (([[110], [105, 110], rgsT rs] : List Tx).map S) else none) = some [(2, S (rgsT rs))] := by
        simp [Mt.each, s_n, s_in]
      rw [e]
      exact ⟨_, rfl, _, rfl, rs, l, rfl, hne, hl3, hrg, fun v H2 s2 hv => ⟨by show 3 ≤ sizeLine; decide, fun t ht => mk v H2 t s2 ht hv (Int.le_refl 0)⟩⟩
    | false =>
      have hlp1 : H1 lp = some (.lst ((([[110], [110, 111, 116], [105, 110], rgsT rs] : List Tx).map S).map V.str)) := by rw [← hH1]; exact upd_same
      refine ⟨lp, _, rfl, SqL.of hlp1, lp, _, rfl, SqL.of hlp1, ?_⟩
      have e : (if (([[110], [110, 111, 116], [105, 110], rgsT rs] : List Tx).map S).length = [Mt.It1.lit "n", .lit "not", .lit "in", .cap 2].length then Mt.each [Mt.It1.lit "n", .lit "not", .lit "in", .cap 2] (([[110], [110, 111, 116], [105, 110], rgsT rs] : List Tx).map S) else none) = some [(2, S (rgsT rs))] := by
        simp [Mt.each, s_n, s_in, s_nt]
      rw [e]
      exact ⟨_, rfl, _, rfl, rs, l, rfl, hne, hl3, hrg, fun v H2 s2 hv => ⟨by show 3 ≤ sizeLine; decide, fun t ht => mk v H2 t s2 ht hv (Int.le_refl 0)⟩⟩
  · have hm' := hm.resolve_left c
    rw [if_neg c] at hH1
    cases b with
    | true =>
      have hlp1 : H1 lp = some (.lst ((([[110], [109, 111, 100], nmT m, [105, 110], rgsT rs] : List Tx).map S).map V.str)) := by rw [← hH1]; exact upd_same
      refine ⟨lp, _, rfl, SqL.of hlp1, lp, _, rfl, SqL.of hlp1, lp, _, rfl, SqL.of hlp1, ?_⟩
      have e : (if (([[110], [109, 111, 100], nmT m, [105, 110], rgsT rs] : List Tx).map S).length = [Mt.It1.lit "n", .lit "mod", .cap 3, .lit "in", .cap 2].length then Mt.each [Mt.It1.lit "n", .lit "mod", .cap 3, .lit "in", .cap 2] (([[110], [109, 111, 100], nmT m, [105, 110], rgsT rs] : List Tx).map S) else none) = some [(3, S (nmT m)), (2, S (rgsT rs))] := by
        simp [Mt.each, s_n, s_in, s_md]
      rw [e]
      exact ⟨_, rfl, _, rfl, m, l, rfl, hm'.1, hm'.2, fun H3 s3 => ⟨_, rfl, _, rfl, rs, l, rfl, hne, hl3, hrg, fun v H2 s2 hv => ⟨by show 3 ≤ sizeLine; decide, fun t ht => mk v H2 t (s3.trans s2) ht (Ls.same RgAt.same (fr_dom fun b hb => s3.free hb) hv) (by omega)⟩⟩⟩
    | false =>
      have hlp1 : H1 lp = some (.lst ((([[110], [109, 111, 100], nmT m, [110, 111, 116], [105, 110], rgsT rs] : List Tx).map S).map V.str)) := by rw [← hH1]; exact upd_same
      refine ⟨lp, _, rfl, SqL.of hlp1, lp, _, rfl, SqL.of hlp1, lp, _, rfl, SqL.of hlp1, lp, _, rfl, SqL.of hlp1, ?_⟩
      have e : (if (([[110], [109, 111, 100], nmT m, [110, 111, 116], [105, 110], rgsT rs] : List Tx).map S).length = [Mt.It1.lit "n", .lit "mod", .cap 3, .lit "not", .lit "in", .cap 2].length then Mt.each [Mt.It1.lit "n", .lit "mod", .cap 3, .lit "not", .lit "in", .cap 2] (([[110], [109, 111, 100], nmT m, [110, 111, 116], [105, 110], rgsT rs] : List Tx).map S) else none) = some [(3, S (nmT m)), (2, S (rgsT rs))] := by
        simp [Mt.each, s_n, s_in, s_md, s_nt]
      rw [e]
      exact ⟨_, rfl, _, rfl, m, l, rfl, hm'.1, hm'.2, fun H3 s3 => ⟨_, rfl, _, rfl, rs, l, rfl, hne, hl3, hrg, fun v H2 s2 hv => ⟨by show 3 ≤ sizeLine; decide, fun t ht => mk v H2 t (s3.trans s2) ht (Ls.same RgAt.same (fr_dom fun b hb => s3.free hb) hv) (by omega)⟩⟩⟩
end
end Mw

/-! t.index(s), t a tuple of texts -/
namespace Tx1
open PySem PySem.Spec PyProof.Rows L2
variable {X : Cx}
def rIdxS (K : PySem.W.Frag) : V → List V → Hp → VK → Prop := fun x xs H Q => ∃ (p : Addr) (ys : List Str) (z : Str) (j : Nat), x = .ref p ∧ xs = [.str z] ∧ SqT K H p (ys.map V.str) ∧ ys[j]? = some z ∧ (∀ m, m < j → ys[m]? ≠ some z) ∧ Q (.int (j : Nat)) H
theorem mt_idxS : MtR X "tuple.index" (rIdxS X.K) := by
  intro pins s σ H x xs v us Q I rx rs h
  obtain ⟨p, ys, z, j, rfl, rfl, hq, hy, hno, q⟩ := h
  cases rx
  obtain ⟨u, rfl, hu⟩ := vals1 rs
  obtain ⟨tz, hu⟩ : ∃ t, u = .str z t := hu
  subst hu
  obtain ⟨its, r, pl, hz⟩ := I.tuple hq
  obtain ⟨⟨cls, dd, dt, sl⟩, ho, hc, n, hd⟩ := pl
  simp only at hc hd
  subst hc
  subst hd
  have hl : its.toArray.size = ys.length := by rw [List.size_toArray, ← r.length, List.length_map]
  have hj : j < its.toArray.size := by rw [hl]; exact (List.getElem?_eq_some_iff.mp hy).1
  have at' : ∀ (m : Nat) (hm : m < its.toArray.size), ∃ y t, ys[m]? = some y ∧ its.toArray[m] = Value.str y t := fun m hm => by
    have hm' : m < ys.length := by rw [← hl]; exact hm
    obtain ⟨w, hw, hw'⟩ := r.get (i := m) (x := .str ys[m]) (by simp [hm'])
    have e := (List.getElem?_eq_some_iff.mp hw).2
    obtain ⟨t, hw'⟩ : ∃ t, w = .str ys[m] t := hw'
    refine ⟨ys[m], t, List.getElem?_eq_getElem hm', ?_⟩
    rw [← hw', ← e]
    simp
  have fl : (ys.map V.str).all flatV = true := by
    rw [List.all_map]
    exact List.all_eq_true.mpr fun _ _ => rfl
  refine call_meets PySem.F.slot_tuple_index ⟨_, ho, rfl⟩ PySem.F.entry_tuple_index (PySem.F.args_tuple_index_2 _ _) (TI.tuple_indexAt p its.toArray n dd sl (.str z tz) (eqU (.str z)) j hj ?_ ?_)
    ⟨ho, fun w hw => mem_eqAt (x := .str z) ⟨tz, rfl⟩ rfl r fl w (by simpa using hw), ⟨.int (j : Nat), H, I.tok _, ⟨_, rfl⟩, q⟩⟩
  · obtain ⟨y, t, h1, h2⟩ := at' j hj
    rw [hy] at h1
    cases h1
    rw [h2]
    show (z == z) = true
    exact beq_self_eq_true z
  · intro m hm hmj
    obtain ⟨y, t, h1, h2⟩ := at' m hm
    rw [h2]
    show (y == z) = false
    exact beq_eq_false_iff_ne.mpr fun e => hno m hmj (e ▸ h1)
end Tx1

namespace Mw
open PySem L2 SX
theorem Ts1.same {K : PySem.W.Frag} {H H' : Hp} {a : Addr} {xs : List V} (s : Same H H') (h : SqT K H a xs) : SqT K H' a xs := by
  rcases h with (h | ⟨fo, h⟩) | h
  · exact Or.inl (Or.inl (s _ _ h))
  · exact Or.inl (Or.inr ⟨fo, s _ _ h⟩)
  · exact Or.inr h
section
variable {P : Program} {w : World} {K : PySem.W.Frag} {mg : Str → Option Value} {base : Heap} {C : Addr}
/-! ### parse_condition -/
abbrev sPc : Stmt := top 21
abbrev nPc : List Str := ["text", "line", "row", "part"]
theorem scPc : FnScope nPc ["text", "line"] (defScope sPc) := ⟨rfl, rfl, rfl, by decide +kernel, rfl, by decide +kernel, by decide +kernel⟩
def rSp : V → List V → Hp → VK → Prop := fun x xs H Q => ∃ a b, x = .str a ∧ xs = [.str b] ∧ (b.length == 0) = false ∧ a.length + 2 ≤ sizeLine ∧ rNewStrs (Txt.split a b) H Q
def spPc : Sp := fun vs H Q _ => ∃ (x : List (List Rel)) (l : Int), vs = [.str (S (conT x)), .int l] ∧ ConOk x ∧ ∀ v H', Same H H' → ConAt (fr H H') x v → Q v H'
theorem ok_pc {f fL : Addr} {fd fdL : FuncData} (F : Fun K "parse_condition" "parse_condition" sPc f fd)
    (GL : FnOk P w K mg base CX0 4 fL fdL ["text", "line"] spPl) (bL : Binds K fdL ["text", "line"] []) (kL : PySem.W.keepIn K (.ref fL) = true) (mL : mg "parse_relation" = some (.ref fL)) : FnOk P w K mg base CX0 5 f fd ["text", "line"] spPc := by
  refine F.ok scPc (fun vs H Q E h => ?_) (fun cdv A outer s H vs Q E hr h => ?_)
  · obtain ⟨x, l, rfl, _⟩ := h
    rfl
  obtain ⟨x, l, rfl, hok, q⟩ := h
  have nd := scPc.nd
  refine ⟨_, pss_one (ps_ret (pe_lc (own := [("row", 2)]) (g := gName 2) (tt := tYes)
      (te := tLc (iList K (tM1 rSp (tVar 2) (tC (.str " and ")))) (gName 3) tYes (tCall spPl [] E0 (tCons (tVar 3) (tCons (tVar 1) tNil))) [3])
      rfl nd (pi_list (pe_split (pv 0) pe_str)) (blkOk_by (N := nPc) (sc := defScope sPc) (by decide +kernel)) (fun _ _ _ _ _ => pg_name (i := 2) nd rfl (.inl rfl)) (fun _ _ _ _ _ => pts_nil)
      (fun _ _ _ _ _ => by
        refine pe_lc (own := [("part", 3)]) rfl nd (pi_list (pe_split (pv 2) pe_str)) ?_ (fun _ _ _ _ _ => ?_) (fun _ _ _ _ _ => pts_nil) (fun _ _ _ _ _ => ?_)
        · exact blkOk_by (N := nPc) (sc := relS { kind := .function, names := [(".0", .local), ("row", .local), ("line", .free)], isGenerator := false, isCoroutine := false } (defScope sPc)) (scope := { kind := .function, names := [(".0", .local), ("part", .local), ("parse_relation", .globalImplicit), ("line", .free)], isGenerator := false, isCoroutine := false }) (own := [("part", 3)]) (by decide +kernel)
        · exact pg_name (i := 3) nd rfl (.inl rfl)
        · exact pe_call GL hr rfl mL kL bL .nil pass0 (pa_cons (pv 3) (pa_cons (pv 1) pa_nil))))), ?_⟩
  have hcl := con_len hok
  refine ⟨_, rfl, ⟨_, rfl⟩, _, _, rfl, rfl, rfl, ?_, fun lp hlp => ⟨lp, rfl, ?_⟩⟩
  · rw [S_len]
    exact le_line (by omega)
  rw [s_or, con_split hok]
  refine ⟨⟨_, SqL.of upd_same⟩, fun D hD => ?_⟩
  generalize hH1 : upd H lp (.lst (((x.map rowT).map S).map V.str)) = H1 at hD
  have s1 : Same H H1 := by rw [← hH1]; exact same_new hlp _
  have hlp1 : H1 lp = some (.lst (((x.map rowT).map S).map V.str)) := by rw [← hH1]; exact upd_same
  generalize hH2 : upd H1 D (.lst []) = HD
  have s2D : Same H1 HD := by rw [← hH2]; exact same_new hD _
  have hDD : HD D = some (.lst []) := by rw [← hH2]; exact upd_same
  rw [← hH2]
  refine lc_list (xs := ((x.map rowT).map S).map V.str) (fun i H' => ∃ vs, Same H1 H' ∧ (∀ b, H' b = none → HD b = none) ∧ H' D = some (.lst vs) ∧ A2 (RowAt (fr HD H')) (x.take i) vs) ⟨[], by rw [hH2]; exact s2D, by rw [hH2]; exact fun _ h => h, upd_same, rfl⟩ (fun i H' _ ⟨_, s', _⟩ => SqL.of (s' _ _ hlp1)) ?_ ?_
  · rintro i y H' hy ⟨vs, s', dm, hD', ha'⟩
    rw [List.getElem?_map, List.getElem?_map, List.getElem?_map] at hy
    cases hz : x[i]? with
    | none => rw [hz] at hy; cases hy
    | some row =>
      rw [hz] at hy
      cases hy
      have hi := get_lt hz
      have hx2 := hok.2.1
      have hvl := ha'.length
      rw [List.length_take] at hvl
      obtain ⟨hne, hl2, hrow⟩ := hok.2.2 row (List.mem_of_getElem? hz)
      have hrl := row_len hl2 hrow
      refine ⟨rfl, _, rfl, ⟨_, rfl⟩, _, _, rfl, rfl, rfl, ?_, fun lp2 hlp2 => ⟨lp2, rfl, ?_⟩⟩
      · rw [S_len]
        exact le_line (by omega)
      rw [s_and, row_split hne hrow]
      refine ⟨⟨_, SqL.of upd_same⟩, fun D2 hD2 => ?_⟩
      generalize hH3 : upd H' lp2 (.lst (((row.map relT).map S).map V.str)) = H3 at hD2
      have s3 : Same H' H3 := by rw [← hH3]; exact same_new hlp2 _
      have hlp3 : H3 lp2 = some (.lst (((row.map relT).map S).map V.str)) := by rw [← hH3]; exact upd_same
      generalize hH4 : upd H3 D2 (.lst []) = HE
      have s4 : Same H3 HE := by rw [← hH4]; exact same_new hD2 _
      have hDE : HE D2 = some (.lst []) := by rw [← hH4]; exact upd_same
      rw [← hH4]
      refine lc_list (xs := ((row.map relT).map S).map V.str) (fun k H2 => ∃ ws, Same H3 H2 ∧ (∀ b, H2 b = none → HE b = none) ∧ H2 D2 = some (.lst ws) ∧ A2 (RelAt (fr HE H2)) (row.take k) ws) ⟨[], by rw [hH4]; exact s4, by rw [hH4]; exact fun _ h => h, upd_same, rfl⟩ (fun k H2 _ ⟨_, s', _⟩ => SqL.of (s' _ _ hlp3)) ?_ ?_
      · rintro k y2 H2 hy2 ⟨ws, s5, dm2, hD22, ha2⟩
        rw [List.getElem?_map, List.getElem?_map, List.getElem?_map] at hy2
        cases hz2 : row[k]? with
        | none => rw [hz2] at hy2; cases hy2
        | some z =>
          rw [hz2] at hy2
          cases hy2
          have hk := get_lt hz2
          have hwl := ha2.length
          rw [List.length_take] at hwl
          refine ⟨rfl, _, rfl, _, rfl, z, l, rfl, hrow z (List.mem_of_getElem? hz2), fun v H5 s6 hv => ⟨ws, s6 _ _ hD22, sz_line (by omega), ws ++ [v], same_mut (s5.trans s6) hD2 _, fun b hb => dm2 b (s6.free (upd_none hb)), upd_same, ?_⟩⟩
          rw [List.take_succ, hz2]
          refine A2.snoc (ha2.mono fun x v h => RelAt.same ((fr_same s6).trans (fr_mut hDE _)) x v h) ?_
          exact RelAt.same ((fr_dom dm2).trans (fr_mut hDE _)) z v hv
      · rintro H2 ⟨ws, s5, dm2, hD22, ha2⟩
        rw [show row.take (((row.map relT).map S).map V.str).length = row by simp] at ha2
        have hwl := ha2.length
        have sD2 : D2 ≠ D := (ne_of_none (s3 _ _ hD') hD2).symm
        have s35 := s3.trans s5
        refine ⟨vs, s35 _ _ hD', sz_line (by omega), vs ++ [.ref D2], same_mut (s'.trans s35) hD _, fun b hb => dm b (s35.free (upd_none hb)), upd_same, ?_⟩
        rw [List.take_succ, hz]
        refine A2.snoc (ha'.mono fun x v h => RowAt.same ((fr_same s35).trans (fr_mut hDD _)) x v h) ⟨D2, ws, rfl, ?_, ha2.mono fun x v h => RelAt.same ((fr_dom fun b hb => dm b (s3.free (s4.free hb))).trans (fr_mut hDD _)) x v h, by omega⟩
        rw [fr_new (dm D2 (s3.free hD2)), upd_ne sD2]
        exact hD22
  · rintro H' ⟨vs, s', dm, hD', ha'⟩
    rw [show x.take (((x.map rowT).map S).map V.str).length = x by simp] at ha'
    have hvl := ha'.length
    have hx2 := hok.2.1
    exact q _ _ (s1.trans s') ⟨D, vs, rfl, fr_new_obj (s1.free hD) hD', ha'.mono fun x v h => RowAt.same (fr_dom fun b hb => s1.free (s2D.free hb)) x v h, by omega⟩
/-! ### parse_rule -/
abbrev sPu : Stmt := top 22
theorem scPu : FnScope ["text", "line", "allowed", "category", "_", "condition"] ["text", "line", "allowed"] (defScope sPu) := ⟨rfl, rfl, rfl, by decide +kernel, rfl, by decide +kernel, by decide +kernel⟩
def spPu (K : PySem.W.Frag) : Sp := fun vs H Q _ => ∃ (r : Rule) (l : Int) (al : Addr) (ns : List Str), vs = [.str (S (ruT r)), .int l, .ref al] ∧ SqT K H al (ns.map V.str) ∧ r.1 ∈ ns ∧ r.1 ∈ cats ∧ ConOk r.2 ∧
  ∀ p v H', Same H H' → H p = none → H' p = some (.tup [.str r.1, v]) → ConAt (fr H H') r.2 v → Q (.ref p) H'
theorem ok_pu {f fC : Addr} {fd fdC : FuncData} (F : Fun K "parse_rule" "parse_rule" sPu f fd)
    (GC : FnOk P w K mg base CX0 5 fC fdC ["text", "line"] spPc) (bC : Binds K fdC ["text", "line"] []) (kC : PySem.W.keepIn K (.ref fC) = true) (mC : mg "parse_condition" = some (.ref fC)) : FnOk P w K mg base CX0 6 f fd ["text", "line", "allowed"] (spPu K) := by
  refine F.ok scPu (fun vs H Q E h => ?_) (fun cdv A outer s H vs Q E hr h => ?_)
  · obtain ⟨r, l, al, ns, rfl, _⟩ := h
    rfl
  obtain ⟨r, l, al, ns, rfl, hal, hin, hc, hco, q⟩ := h
  have nd := scPu.nd
  refine ⟨_, (pss_cons (ps_asg (pe_partition (pv 0) pe_str) (pg_tup rfl (pgs_cons (pg_name (i := 3) nd rfl (.inl rfl)) (pgs_cons (pg_name (i := 4) nd rfl (.inl rfl)) (pgs_cons (pg_name (i := 5) nd rfl (.inl rfl)) pgs_nil)))))
      (pss_cons (ps_if (pt_cmpR op_notIn_seq (pv 3) (pv 2) rfl) (pss_one (ps_never)) pss_nil)
      (pss_one (ps_ret (pe_tup (pa_cons (pv 3) (pa_cons (pe_call GC hr rfl mC kC bC .nil pass0 (pa_cons (pv 5) (pa_cons (pv 1) pa_nil))) pa_nil))))))), ?_⟩
  have hl := ru_len hc hco
  refine ⟨_, rfl, ⟨_, rfl⟩, _, _, rfl, rfl, rfl, s_line (by omega), fun p hp => ?_⟩
  rw [s_col, ru_part hc]
  have s1 : Same H (upd H p (.tup [.str r.1, .str (S [58, 32]), .str (S (conT r.2))])) := same_new hp _
  refine ⟨p, _, rfl, .inl (.inl upd_same), rfl, _, _, rfl, _, _, rfl, _, [], rfl, rfl, ?_⟩
  have fl : (ns.map V.str).all flatV = true := by
    rw [List.all_map]
    exact List.all_eq_true.mpr fun _ _ => rfl
  have hin' : inV (.str r.1) (ns.map V.str) = true := by
    unfold inV
    rw [List.any_eq_true]
    exact ⟨.str r.1, List.mem_map_of_mem hin, beq_self_eq_true (α := Str) _⟩
  refine ⟨_, rfl, _, rfl, al, _, rfl, .inr (Ts1.same s1 hal), rfl, fl, _, rfl, ?_⟩
  rw [hin']
  refine iteF ⟨_, rfl, _, rfl, _, rfl, r.2, l, rfl, hco, fun v H2 s2 hv => ⟨by show 2 ≤ sizeLine; decide, fun t ht => ?_⟩⟩
  have s12 := s1.trans s2
  exact q t v _ (s12.trans (same_new ht _)) (s12.free ht) upd_same (ConAt.same ((fr_dom fun b hb => s1.free hb).trans (fr_same (same_new ht _))) r.2 v hv)
end
end Mw

/-! ### tuples: a slice that may be the whole, a sum whose left side may be empty, once a tuple -/
namespace Ts
open PySem L2 PyProof.Rows PySem.Spec
section
variable {s : Shared} {prog : Program} {w : World} {A : Around} {E : Value → Shared → Prop}
theorem whole {t sl : Addr} {items : Array Value} {vl vu : Value} {lo hi : Option Int} {Q : Value → Shared → Prop} (ht : IsTup s.heap t items) (hs : s.heap.IsSliceOf sl vl vu .none) (pl : IsPart vl lo) (pu : IsPart vu hi)
    (hl : HT.sIx items.size 0 lo = 0) (hh : HT.sIx items.size items.size hi = items.size) (h : Q (.ref t) s) : wpAny (model prog w) A (getItem (.ref t) (.ref sl)) Q E s := by
  obtain ⟨os, so1, so2, so3⟩ := id hs
  have tys : s.TypeIs (.ref sl) "slice" := ⟨os, so1, so2⟩
  unfold getItem
  try (with_reducible refine wpAny_holding ?_)
  try refine wpAny_bind (wpAny_pure ?_)
  refine wpAny_bind (wpAny_sequenceKey ht.typeIs (by decide) (wpAny_bind (wpAny_callSpecial?_slot (name := Str.ofString "__getitem__") ht.typeIs slot_tuple_getitem
    (wpAny_call_entry slot_tuple_getitem ht.typeIs entry_tuple_getitem ?_ (args_tuple_getitem _ _)))))
  (show wpAny _ _ (Builtin.Tuple.tupleItemsOf (.ref t) >>= _) _ _ s); refine wpAny_bind (tupleItemsOf_ ht (wpAny_bind (wpAny_typeOf tys ?_)))
  rw [if_pos (by decide)]
  refine wpAny_bind (HT.sliceApplied_gen hs pl pu ?_)
  have hyes : (((HT.sIx items.size 0 lo : Nat) : Int) == 0 && (1 : Int) == 1 && (HT.sIx items.size items.size hi - HT.sIx items.size 0 lo) == items.size) = true := by
    rw [hl, hh]
    simp
  show wpAny _ _ (if (((HT.sIx items.size 0 lo : Nat) : Int) == 0 && (1 : Int) == 1 && (HT.sIx items.size items.size hi - HT.sIx items.size 0 lo) == items.size) = true then _ else _) _ _ s
  rw [if_pos hyes]
  unfold Builtin.Tuple.tupleIsExact
  refine wpAny_bind (wpAny_bind (wpAny_typeOf ht.typeIs (wpAny_pure ?_)))
  rw [if_pos (by decide)]
  first
    | exact wpAny_bind (wpAny_pure (wpAny_pure ⟨_, rfl, wpAny_pure h⟩))
    | (wp_walk; exact ⟨_, rfl, wpAny_pure h⟩)
theorem rep1 (l : Addr) (items : Array Value) (n : Nat) (dd : Option Addr) (sl : Array (Option Value)) (u : Tok) :
    Meets (Builtin.«tuple.__mul__» ⟨[.ref l, .int 1 u], []⟩) (fun _ R s => s.heap.get? l = some { cls := .type "tuple", dict := dd, data := .seq items n, slots := sl } ∧ R (.ok (.ret (Value.ref l))) s) :=
  .of_wp fun _ _ _ R sh h => by
    obtain ⟨hp, g, d, tk, os⟩ := sh; obtain ⟨hl, h⟩ := h
    have f1 := AutoSeq1.idx_int
    have c0 : (decide ((1 : Int) < -(2 ^ 63)) || decide ((1 : Int) ≥ 2 ^ 63)) = false := by decide
    have c1 : (items.isEmpty || (1 : Int) == 1) = true := by simp
    wp_walk using wpAny_loadPart' hl; exact ⟨_, rfl, h⟩
end
/-- what a tuple's slice is, the whole or less -/
def rSl (K : PySem.W.Frag) : V → Option Int → Option Int → Hp → VK → Prop := fun x lo hi H Q => ∃ a xs, x = .ref a ∧ SqT K H a xs ∧ ∀ p H', Same H H' → SqT K H' p (cutV xs lo hi) → Q (.ref p) H'
section
variable {X : Cx}
theorem sl : SlR X (rSl X.K) := by
  intro pn s σ H x v vl vu lo hi sp Q Iv rx hs pl pu hh
  obtain ⟨a, xs, rfl, hxs, q⟩ := hh
  by_cases hw : (HT.sIx xs.length 0 lo = 0) ∧ (HT.sIx xs.length xs.length hi = xs.length)
  · cases rx
    obtain ⟨ws1, r, ht, hbd⟩ := Iv.tuple hxs
    have eln : ws1.toArray.size = xs.length := by rw [List.size_toArray]; exact r.length.symm
    refine ⟨"tuple", _, PyProof.Rows.slot_tuple_getitem.lookup, ht.typeIs, whole ht hs pl pu (by rw [eln]; exact hw.1) (by rw [eln]; exact hw.2) ⟨.ref a, H, Iv, rfl, q a H (fun _ _ h => h) ?_⟩⟩
    have e : cutV xs lo hi = xs := by
      unfold cutV
      rw [hw.1, hw.2]
      simp
    rw [e]
    exact hxs
  · exact sl_tup pn s σ H _ v vl vu lo hi sp Q Iv rx hs pl pu ⟨a, xs, rfl, hxs, hw, fun p hp => q p _ (fun b o h => by rw [upd_ne (ne_of_none h hp)]; exact h) (SqT.of upd_same)⟩
/-- a sum of tuples -/
def rCat (K : PySem.W.Frag) : R2 := fun x y H Q => ∃ a b xs ys, x = .ref a ∧ y = .ref b ∧ SqT K H a xs ∧ SqT K H b ys ∧ xs.length + ys.length ≤ sizeLine ∧ ∀ p H', Same H H' → SqT K H' p (xs ++ ys) → Q (.ref p) H'
theorem cat : OpR X (binaryOp .Add) (rCat X.K) := by
  intro pn s σ H x y v u Q Iv rx ry hh
  obtain ⟨a, b, xs, ys, rfl, rfl, hta, hb, hbd, q⟩ := hh
  by_cases hxs : xs = []
  · subst hxs
    cases rx
    cases ry
    obtain ⟨ws1, rv1, p1, _⟩ := Iv.tuple hta
    obtain ⟨ws2, rv2, p2, _⟩ := Iv.tuple hb
    cases rv1
    obtain ⟨⟨cls, dd, data, sl⟩, ho, hc, n, hdt⟩ := id p1
    obtain ⟨⟨cls2, dd2, data2, sl2⟩, ho2, hc2, n2, hd2⟩ := id p2
    simp only at hc hdt hc2 hd2
    subst hc hdt hc2 hd2
    exact concat_meets ⟨_, ho, rfl⟩ ⟨_, ho2, rfl⟩ noFill_tuple_add seq_tuple_add PySem.F.slot_tuple_add PySem.F.entry_tuple_add (PySem.F.args_tuple_add_2 _ _) (tuple_addW0 a b _ ws2.toArray n n2 dd dd2 sl sl2 (by simp)) ⟨ho, ho2, ⟨.ref b, H, Iv, rfl, q b H (fun _ _ h => h) hb⟩⟩
  · refine op_catT pn s σ H _ _ v u Q Iv rx ry ⟨a, b, xs, ys, rfl, rfl, hta, hb, hxs, hbd, fun e => q a H (fun _ _ h => h) (by rw [e, List.append_nil]; exact hta), fun _ p hp => q p _ (fun b o h => by rw [upd_ne (ne_of_none h hp)]; exact h) (SqT.of upd_same)⟩
/-- a tuple some times -/
def rRep (K : PySem.W.Frag) : R2 := fun x y H Q => ∃ l k xs, x = .ref l ∧ y = .int k ∧ SqT K H l xs ∧ xs ≠ [] ∧ 1 ≤ k ∧ k ≤ 1000 ∧ xs.length ≤ 1000 ∧ ∀ p H', Same H H' → SqT K H' p (List.replicate k.toNat xs).flatten → Q (.ref p) H'
theorem rep : OpR X (binaryOp .Mult) (rRep X.K) := by
  intro pn s σ H x y v u Q Iv rx ry hh
  obtain ⟨l, k, xs, rfl, rfl, hTu, hnn, h1, h2, hbd, q⟩ := hh
  by_cases hk : k = 1
  · subst hk
    cases rx
    obtain ⟨t, rfl⟩ := ry
    obtain ⟨ws1, r, ⟨⟨cls, dd, data, sl⟩, ho, hc, n, hdt⟩, hs⟩ := Iv.tuple hTu
    simp only at hc hdt
    subst hc hdt
    exact wpAny_binaryOp_repeat_ref (T := "tuple") (U := "int") (by decide) ⟨_, ho, rfl⟩ (fun s' => typeIs_int s' 1 t) noFill_tuple_mul F.fills_int_mul F.slot_int_rmul repeat_tuple F.slot_int_index.lookup (call_meets F.slot_int_rmul (typeIs_int s 1 t) F.entry_int_rmul (F.args_int_rmul_2 _ _) (int_rmul_tuple 1 t l ws1.toArray n dd sl)
      ⟨ho, rfl, ⟨_, ho, rfl⟩, call_meets F.slot_tuple_mul ⟨_, ho, rfl⟩ F.entry_tuple_mul (F.args_tuple_mul_2 _ _) (rep1 l ws1.toArray n dd sl t) ⟨ho, ⟨.ref l, H, Iv, rfl, q l H (fun _ _ h => h) (by simpa using hTu)⟩⟩⟩)
  · exact op_repT pn s σ H _ _ v u Q Iv rx ry ⟨l, k, xs, rfl, rfl, hTu, hnn, by omega, h2, hbd, fun p hp => q p _ (fun b o h => by rw [upd_ne (ne_of_none h hp)]; exact h) (SqT.of upd_same)⟩
/-- tuple(..) of a list or a tuple -/
def rTup (K : PySem.W.Frag) : List V → Hp → VK → Prop := fun xs H Q => ∃ a ys, xs = [.ref a] ∧ (SqL K H a ys ∨ SqT K H a ys) ∧ ∀ p H', Same H H' → SqT K H' p ys → Q (.ref p) H'
theorem tup : CallR X (.type "tuple") (rTup X.K) := by
  intro pn s σ H xs us Q Iv r hh
  obtain ⟨a, ys, rfl, hta, q⟩ := hh
  refine call_tuple_of pn s σ H _ us Q Iv r ⟨a, ys, rfl, ?_⟩
  rcases hta with hta | hta
  · exact .inl ⟨hta, fun l hl => q l _ (fun b o h => by rw [upd_ne (ne_of_none h hl)]; exact h) (SqT.of upd_same)⟩
  · exact .inr ⟨hta, q a H (fun _ _ h => h) hta⟩
end
theorem same {K : PySem.W.Frag} {H H' : Hp} {a : Addr} {xs : List V} (e : Same H H') (h : SqT K H a xs) : SqT K H' a xs := by
  rcases h with (h | ⟨fo, h⟩) | h
  · exact Or.inl (Or.inl (e _ _ h))
  · exact Or.inl (Or.inr ⟨fo, e _ _ h⟩)
  · exact Or.inr h
end Ts

set_option maxHeartbeats 4000000
namespace Ts
open PySem L2 PyProof.Rows PySem.Spec
/-! ### a tuple no times; the place of a bool; a tuple in a tuple; lcm -/
theorem rep0 (l : Addr) (items : Array Value) (n : Nat) (dd : Option Addr) (sl : Array (Option Value)) (u : Tok) (hi : items.isEmpty = false) :
    Meets (Builtin.«tuple.__mul__» ⟨[.ref l, .int 0 u], []⟩) (fun _ R s => s.heap.get? l = some { cls := .type "tuple", dict := dd, data := .seq items n, slots := sl } ∧
      R (.ok (.ret (Value.ref s.heap.objs.size))) { s with heap := s.heap.push { cls := Value.type "tuple", data := Data.seq #[] }, toks := s.toks }) :=
  .of_wp fun prog w A R s h => by
    obtain ⟨hp, g, d, tk, os⟩ := s
    obtain ⟨hl, h⟩ := h
    have f1 := AutoSeq1.idx_int
    have c0 : (decide ((0 : Int) < -(2 ^ 63)) || decide ((0 : Int) ≥ 2 ^ 63)) = false := by decide
    have c1 : (items.isEmpty || (0 : Int) == 1) = false := by rw [hi]; rfl
    have c2 : (decide ((0 : Int) ≤ 0) || items.isEmpty) = true := by simp
    wp_walk using wpAny_loadPart' hl
    repeat (first
      | (refine wpAny_ite_false (decide_eq_false (by rw [c1]; exact Bool.false_ne_true)) ?_; wp_walk using wpAny_loadPart' hl)
      | (refine wpAny_ite_true (decide_eq_true c2) ?_; wp_walk using wpAny_loadPart' hl))
    exact ⟨_, rfl, h⟩
/-- a tuple some times, or none -/
def rRep0 (K : PySem.W.Frag) : R2 := fun x y H Q => ∃ l k xs, x = .ref l ∧ y = .int k ∧ SqT K H l xs ∧ xs ≠ [] ∧ 0 ≤ k ∧ k ≤ 1000 ∧ xs.length ≤ 1000 ∧ ∀ p H', Same H H' → SqT K H' p (List.replicate k.toNat xs).flatten → Q (.ref p) H'
section
variable {X : Cx}
theorem repz : OpR X (binaryOp .Mult) (rRep0 X.K) := by
  intro pn s σ H x y v u Q Iv rx ry hh
  obtain ⟨l, k, xs, rfl, rfl, hTu, hnn, h1, h2, hbd, q⟩ := hh
  by_cases hk : k = 0
  · subst hk
    cases rx
    obtain ⟨t, rfl⟩ := ry
    obtain ⟨ws1, r, ⟨⟨cls, dd, data, sl⟩, ho, hc, n, hdt⟩, hs⟩ := Iv.tuple hTu
    simp only at hc hdt
    subst hc hdt
    have hi : ws1.toArray.isEmpty = false := by
      cases ws1 with
      | nil => cases r; exact absurd rfl hnn
      | cons a b => rfl
    refine wpAny_binaryOp_repeat_ref (T := "tuple") (U := "int") (by decide) ⟨_, ho, rfl⟩ (fun s' => typeIs_int s' 0 t) noFill_tuple_mul F.fills_int_mul F.slot_int_rmul repeat_tuple F.slot_int_index.lookup (call_meets F.slot_int_rmul (typeIs_int s 0 t) F.entry_int_rmul (F.args_int_rmul_2 _ _) (int_rmul_tuple 0 t l ws1.toArray n dd sl)
      ⟨ho, rfl, ⟨_, ho, rfl⟩, call_meets F.slot_tuple_mul ⟨_, ho, rfl⟩ F.entry_tuple_mul (F.args_tuple_mul_2 _ _) (rep0 l ws1.toArray n dd sl t hi) ⟨ho, ?_⟩⟩)
    refine ⟨.ref s.heap.objs.size, _, Iv.laid (t' := s.toks) (o := .tup []) (fun b ob q => Heap.get?_push_of_some _ q) (Nat.le_refl _) ?_, rfl, q _ _ (fun b o h => by rw [upd_ne (ne_of_none h (Iv.hok.fresh (Nat.le_refl _)))]; exact h) (SqT.of upd_same)⟩
    exact ⟨Nat.zero_le _, [], .nil, IsTup.new _ _⟩
  · exact rep pn s σ H _ _ v u Q Iv rx ry ⟨l, k, xs, rfl, rfl, hTu, hnn, by omega, h2, hbd, q⟩
/-- t.index(b), a tuple of bools -/
def rIdxB (K : PySem.W.Frag) : V → List V → Hp → VK → Prop := fun x xs H Q => ∃ (p : Addr) (ys : List Bool) (z : Bool) (j : Nat), x = .ref p ∧ xs = [.bl z] ∧ SqT K H p (ys.map V.bl) ∧ ys[j]? = some z ∧ (∀ m, m < j → ys[m]? ≠ some z) ∧ Q (.int (j : Nat)) H
theorem mt_idxB : MtR X "tuple.index" (rIdxB X.K) := by
  intro pins s σ H x xs v us Q I rx rs h
  obtain ⟨p, ys, z, j, rfl, rfl, hq, hy, hno, q⟩ := h
  cases rx
  obtain ⟨u, rfl, hu⟩ := vals1 rs
  have hu : u = .bool z := hu
  subst hu
  obtain ⟨its, r, pl, hz⟩ := I.tuple hq
  obtain ⟨⟨cls, dd, dt, sl⟩, ho, hc, n, hd⟩ := pl
  simp only at hc hd
  subst hc
  subst hd
  have hl : its.toArray.size = ys.length := by rw [List.size_toArray, ← r.length, List.length_map]
  have hj : j < its.toArray.size := by rw [hl]; exact (List.getElem?_eq_some_iff.mp hy).1
  have at' : ∀ (m : Nat) (hm : m < its.toArray.size), ∃ y, ys[m]? = some y ∧ its.toArray[m] = Value.bool y := fun m hm => by
    have hm' : m < ys.length := by rw [← hl]; exact hm
    obtain ⟨w, hw, hw'⟩ := r.get (i := m) (x := .bl ys[m]) (by simp [hm'])
    refine ⟨ys[m], List.getElem?_eq_getElem hm', ?_⟩
    have e := (List.getElem?_eq_some_iff.mp hw).2
    have hw' : w = .bool ys[m] := hw'
    rw [← hw', ← e]
    simp
  have fl : (ys.map V.bl).all flatV = true := by
    rw [List.all_map]
    exact List.all_eq_true.mpr fun _ _ => rfl
  refine call_meets PySem.F.slot_tuple_index ⟨_, ho, rfl⟩ PySem.F.entry_tuple_index (PySem.F.args_tuple_index_2 _ _) (TI.tuple_indexAt p its.toArray n dd sl (.bool z) (eqU (.bl z)) j hj ?_ ?_)
    ⟨ho, fun w hw => mem_eqAt (x := .bl z) rfl rfl r fl w (by simpa using hw), ⟨.int (j : Nat), H, I.tok _, ⟨_, rfl⟩, q⟩⟩
  · obtain ⟨y, h1, h2⟩ := at' j hj
    rw [hy] at h1
    cases h1
    rw [h2]
    show (z == z) = true
    exact beq_self_eq_true z
  · intro m hm hmj
    obtain ⟨y, h1, h2⟩ := at' m hm
    rw [h2]
    show (y == z) = false
    exact beq_eq_false_iff_ne.mpr fun e => hno m hmj (e ▸ h1)
/-- x in t, t a tuple of data -/
def rInT (K : PySem.W.Frag) : R2 := fun x y H Q => ∃ d ds, Dp K H x d ∧ Dp K H y (.tuple ds) ∧ SeqAt.shaped d = true ∧ SeqAt.shaped (.tuple ds) = true ∧ Q (.bl (ds.any fun z => PyData.eqv z d)) H
theorem op_inT (hu : X.A.units + 65 < cLine) : OpR X (compareOp .In) (rInT X.K) := by
  intro pins s σ H x y v u Q I rx ry h
  obtain ⟨d, ds, hd, he, sd, se, q⟩ := h
  obtain ⟨as, r1⟩ := Dp.reads I d x v hd rx
  obtain ⟨bs, r2⟩ := Dp.reads I (.tuple ds) y u he ry
  exact SeqAt.in_tuple_reads r2 r1 (SeqAt.canLay_of_shaped se) (SeqAt.canLay_of_shaped sd) (room_in_shaped sd hu) ⟨.bl _, H, I, rfl, q⟩
def rLcm : List V → Hp → VK → Prop := fun vs H Q => ∃ a b : Nat, vs = [.int (a : Int), .int (b : Int)] ∧ a < 2 ^ 64 ∧ b < 2 ^ 64 ∧ Q (.int ((Nat.lcm a b : Nat) : Int)) H
theorem cr_lcm : CallR X (.builtin "math.lcm") rLcm := by
  intro pins s σ H vs us Q I r h
  obtain ⟨a, b, rfl, ha, hb, q⟩ := h
  obtain ⟨t, u, rfl⟩ := Vals.int2 r
  exact PySem.W.mc_lcm (by simpa using ha) (by simpa using hb) fun _ => ⟨.int _, H, I.tok _, ⟨_, rfl⟩, q⟩
end
end Ts

set_option maxHeartbeats 4000000
/-! ### tuples whose object has no dict -/
namespace Tn
open PySem L2 PyProof.Rows PySem.Spec
def NT (K : PySem.W.Frag) (H : Hp) (p : Addr) (xs : List V) : Prop := SqT K H p xs ∧ ((∃ ob, H p = some (.frz ob (.tup xs)) ∧ ob.dict = none) ∨ ∃ o, K.lookup p = some o ∧ o.cls = .type "tuple" ∧ o.dict = none)
theorem same {K : PySem.W.Frag} {H H' : Hp} {p : Addr} {xs : List V} (s : Same H H') (h : NT K H p xs) : NT K H' p xs := by
  refine ⟨Ts.same s h.1, ?_⟩
  rcases h.2 with ⟨ob, h1, h2⟩ | h
  · exact .inl ⟨ob, s _ _ h1, h2⟩
  · exact .inr h
theorem of {K : PySem.W.Frag} {H : Hp} {p : Addr} {xs : List V} {ob : Obj} (e : H p = some (.frz ob (.tup xs))) (d : ob.dict = none) : NT K H p xs := ⟨.inl (.inr ⟨ob, e⟩), .inl ⟨ob, e, d⟩⟩
section
variable {X : Cx}
theorem land {pn : List (Addr × Obj)} {σ : L2.St} {H : Hp} {s : Shared} {xs : List V} {its : List Value} (Iv : Inv X pn σ H s) (r : Vals xs its) (hl : xs.length ≤ sizeLine) {Q : VK}
    (q : ∀ p H', Same H H' → NT X.K H' p xs → Q (.ref p) H') : EP X pn σ Q (.ref s.heap.objs.size) { s with heap := s.heap.push { cls := .type "tuple", data := .seq its.toArray } } := by
  refine ⟨.ref s.heap.objs.size, _, Iv.laid (t' := s.toks) (o := .frz { cls := .type "tuple", data := .seq its.toArray } (.tup xs)) (fun b ob q => Heap.get?_push_of_some _ q) (Nat.le_refl _) ?_, rfl, q _ _ (fun b o h => by rw [upd_ne (ne_of_none h (Iv.hok.fresh (Nat.le_refl _)))]; exact h) (of upd_same rfl)⟩
  exact ⟨Heap.get?_push_size _ rfl, hl, its, r, IsTup.new _ _⟩
def rSl (K : PySem.W.Frag) : V → Option Int → Option Int → Hp → VK → Prop := fun x lo hi H Q => ∃ a xs, x = .ref a ∧ NT K H a xs ∧ ∀ p H', Same H H' → NT K H' p (cutV xs lo hi) → Q (.ref p) H'
theorem sl : SlR X (rSl X.K) := by
  intro pn s σ H x v vl vu lo hi sp Q Iv rx hs pl pu hh
  obtain ⟨a, xs, rfl, hxs, q⟩ := hh
  cases rx
  obtain ⟨ws1, r, ht, hbd⟩ := Iv.tuple hxs.1
  have eln : ws1.toArray.size = xs.length := by rw [List.size_toArray]; exact r.length.symm
  by_cases hw : (HT.sIx xs.length 0 lo = 0) ∧ (HT.sIx xs.length xs.length hi = xs.length)
  · refine ⟨"tuple", _, PyProof.Rows.slot_tuple_getitem.lookup, ht.typeIs, Ts.whole ht hs pl pu (by rw [eln]; exact hw.1) (by rw [eln]; exact hw.2) ⟨.ref a, H, Iv, rfl, q a H (fun _ _ h => h) ?_⟩⟩
    have e : cutV xs lo hi = xs := by
      unfold cutV
      rw [hw.1, hw.2]
      simp
    rw [e]
    exact hxs
  · refine ⟨"tuple", _, PyProof.Rows.slot_tuple_getitem.lookup, ht.typeIs, ?_⟩
    refine HT.getItem_tuple_cut ht hs pl pu (by rw [eln]; exact hw) ?_ (by rw [eln]; exact hbd)
    rw [eln]
    exact land Iv ((r.drop (HT.sIx xs.length 0 lo)).take (HT.sIx xs.length xs.length hi - HT.sIx xs.length 0 lo)) (Nat.le_trans (cutV_length xs lo hi) hbd) q
def rCat (K : PySem.W.Frag) : R2 := fun x y H Q => ∃ a b xs ys, x = .ref a ∧ y = .ref b ∧ NT K H a xs ∧ NT K H b ys ∧ xs.length + ys.length ≤ sizeLine ∧ ∀ p H', Same H H' → NT K H' p (xs ++ ys) → Q (.ref p) H'
theorem cat : OpR X (binaryOp .Add) (rCat X.K) := by
  intro pn s σ H x y v u Q Iv rx ry hh
  obtain ⟨a, b, xs, ys, rfl, rfl, hta, hb, hbd, q⟩ := hh
  cases rx
  cases ry
  obtain ⟨ws1, rv1, p1, _⟩ := Iv.tuple hta.1
  obtain ⟨ws2, rv2, p2, _⟩ := Iv.tuple hb.1
  by_cases hxs : xs = []
  · subst hxs
    cases rv1
    obtain ⟨⟨cls, dd, data, sl⟩, ho, hc, n, hdt⟩ := id p1
    obtain ⟨⟨cls2, dd2, data2, sl2⟩, ho2, hc2, n2, hd2⟩ := id p2
    simp only at hc hdt hc2 hd2
    subst hc hdt hc2 hd2
    exact concat_meets ⟨_, ho, rfl⟩ ⟨_, ho2, rfl⟩ noFill_tuple_add seq_tuple_add PySem.F.slot_tuple_add PySem.F.entry_tuple_add (PySem.F.args_tuple_add_2 _ _) (tuple_addW0 a b _ ws2.toArray n n2 dd dd2 sl sl2 (by simp)) ⟨ho, ho2, ⟨.ref b, H, Iv, rfl, q b H (fun _ _ h => h) hb⟩⟩
  · refine HT.cat_tup p1 p2 (fun z => hxs (rv1.nil_iff.mp z)) (fun z => ⟨.ref a, H, Iv, rfl, q a H (fun _ _ h => h) (by rw [rv2.nil_iff.mp z, List.append_nil]; exact hta)⟩) (fun z => ?_) (by rw [← rv1.length, ← rv2.length]; exact hbd)
    exact land Iv (rv1.append rv2) (by rw [List.length_append]; exact hbd) q
def rRep (K : PySem.W.Frag) : R2 := fun x y H Q => ∃ l k xs, x = .ref l ∧ y = .int k ∧ NT K H l xs ∧ xs ≠ [] ∧ 0 ≤ k ∧ k ≤ 1000 ∧ xs.length ≤ 1000 ∧ ∀ p H', Same H H' → NT K H' p (List.replicate k.toNat xs).flatten → Q (.ref p) H'
theorem rep : OpR X (binaryOp .Mult) (rRep X.K) := by
  intro pn s σ H x y v u Q Iv rx ry hh
  obtain ⟨l, k, xs, rfl, rfl, hTu, hnn, h0, h2, hz, q⟩ := hh
  cases rx
  obtain ⟨t, rfl⟩ := ry
  obtain ⟨its, r, ⟨⟨cls, dd, data, sl⟩, ho, hc, n, hdt⟩, hs⟩ := Iv.tuple hTu.1
  simp only at hc hdt
  subst hc hdt
  have hle : its.length = xs.length := r.length.symm
  have hi : its.toArray.isEmpty = false := by
    cases its with
    | nil => cases r; exact absurd rfl hnn
    | cons a b => rfl
  rcases (show k = 0 ∨ k = 1 ∨ 2 ≤ k by omega) with hk | hk | h1
  · subst hk
    refine wpAny_binaryOp_repeat_ref (T := "tuple") (U := "int") (by decide) ⟨_, ho, rfl⟩ (fun s' => typeIs_int s' 0 t) noFill_tuple_mul F.fills_int_mul F.slot_int_rmul repeat_tuple F.slot_int_index.lookup (call_meets F.slot_int_rmul (typeIs_int s 0 t) F.entry_int_rmul (F.args_int_rmul_2 _ _) (int_rmul_tuple 0 t l its.toArray n dd sl)
      ⟨ho, rfl, ⟨_, ho, rfl⟩, call_meets F.slot_tuple_mul ⟨_, ho, rfl⟩ F.entry_tuple_mul (F.args_tuple_mul_2 _ _) (Ts.rep0 l its.toArray n dd sl t hi) ⟨ho, ?_⟩⟩)
    exact land (its := []) Iv .nil (Nat.zero_le _) q
  · subst hk
    exact wpAny_binaryOp_repeat_ref (T := "tuple") (U := "int") (by decide) ⟨_, ho, rfl⟩ (fun s' => typeIs_int s' 1 t) noFill_tuple_mul F.fills_int_mul F.slot_int_rmul repeat_tuple F.slot_int_index.lookup (call_meets F.slot_int_rmul (typeIs_int s 1 t) F.entry_int_rmul (F.args_int_rmul_2 _ _) (int_rmul_tuple 1 t l its.toArray n dd sl)
      ⟨ho, rfl, ⟨_, ho, rfl⟩, call_meets F.slot_tuple_mul ⟨_, ho, rfl⟩ F.entry_tuple_mul (F.args_tuple_mul_2 _ _) (Ts.rep1 l its.toArray n dd sl t) ⟨ho, ⟨.ref l, H, Iv, rfl, q l H (fun _ _ h => h) (by simpa using hTu)⟩⟩⟩)
  · have hsz0 : its.toArray.size = xs.length := by rw [List.size_toArray, hle]
    have hm : ((its.toArray.size : Nat) : Int) * k ≤ 1000000 := by
      rw [hsz0]
      have a1 : ((xs.length : Nat) : Int) * k ≤ 1000 * k := Int.mul_le_mul_of_nonneg_right (by omega) (by omega)
      omega
    have flen : (List.replicate k.toNat its).flatten.length ≤ sizeLine := by
      rw [PyProof.Rows.lm_len_rep_flat, hle, sizeLine_eq]
      have a1 : k.toNat * xs.length ≤ 1000 * 1000 := Nat.mul_le_mul (by omega) hz
      omega
    have c0 : (decide (k < -(2 ^ 63)) || decide (k ≥ 2 ^ 63)) = false := by
      rw [decide_eq_false (by omega), decide_eq_false (by omega)] <;> rfl
    have c1 : (its.toArray.isEmpty || k == 1) = false := by
      rw [hi, Bool.false_or]
      exact beq_eq_false_iff_ne.mpr (by omega)
    have c2 : (decide (k ≤ 0) || its.toArray.isEmpty) = false := by
      rw [hi, Bool.or_false]
      exact decide_eq_false (by omega)
    have c4 : Builtin.Tuple.tupleTooMany (((its.toArray.size : Nat) : Int) * k) = false := by
      unfold Builtin.Tuple.tupleTooMany
      rw [sizeLine_eq]
      exact decide_eq_false (by omega)
    refine wpAny_binaryOp_repeat_ref (T := "tuple") (U := "int") (by decide) ⟨_, ho, rfl⟩ (fun s' => typeIs_int s' k t) noFill_tuple_mul F.fills_int_mul F.slot_int_rmul repeat_tuple F.slot_int_index.lookup
      (call_meets F.slot_int_rmul (typeIs_int s k t) F.entry_int_rmul (F.args_int_rmul_2 _ _) (int_rmul_tuple k t l its.toArray n dd sl)
        ⟨ho, rfl, ⟨_, ho, rfl⟩, call_meets F.slot_tuple_mul ⟨_, ho, rfl⟩ F.entry_tuple_mul (F.args_tuple_mul_2 _ _) (tuple_mulW l its.toArray n dd sl k t c0 c1 c2 (by omega) c4 (by rw [size_rep, List.size_toArray]; exact flen)) ⟨ho, ?_⟩⟩)
    rw [size_rep]
    refine land Iv (r.rep k.toNat) ?_ q
    rw [PyProof.Rows.lm_len_rep_flat, sizeLine_eq]
    have a1 : k.toNat * xs.length ≤ 1000 * 1000 := Nat.mul_le_mul (by omega) hz
    omega
def rTup (K : PySem.W.Frag) : List V → Hp → VK → Prop := fun xs H Q => ∃ a ys, xs = [.ref a] ∧ (SqL K H a ys ∨ NT K H a ys) ∧ ∀ p H', Same H H' → NT K H' p ys → Q (.ref p) H'
theorem tup : CallR X (.type "tuple") (rTup X.K) := by
  intro pn s σ H xs us Q I r hh
  obtain ⟨p, ys, rfl, h, q⟩ := hh
  obtain ⟨u, rfl, rx⟩ := vals1 r
  cases rx
  rcases h with hq | hq
  · obtain ⟨its, r', pl, hz⟩ := I.list hq
    have hlen := r'.length
    refine call_tuple_list pl.isList (fun h' kp => ?_) (by simp only [List.size_toArray] <;> omega)
    have I1 : Inv X pn σ H { s with heap := h' } := I.kept (t' := s.toks) kp
    exact land I1 r' hz q
  · obtain ⟨its, r', pl, hz⟩ := I.tuple hq.1
    exact call_tuple_same pl ⟨.ref p, H, I, rfl, q p H (fun _ _ h => h) hq⟩
variable {e : Expr} {es : List Expr} {t : TA} {pos : Pos}
def tTupN (K : PySem.W.Frag) (t : TA) : TE := fun σ H Q => t σ H fun xs H1 => xs.length ≤ sizeLine ∧ ∀ p H', Same H1 H' → NT K H' p xs → Q (.ref p) H'
theorem pe_tupN {x1} (h : PA X es t) : PE X (.Tuple es x1 pos) (tTupN X.K t) := by
  refine ⟨fun pins s σ H Q I hq => ?_⟩
  refine wpAny_Tuple_spliced (thn (h.run pos pins s σ H _ I hq) fun us s1 ⟨xs, H1, I1, r, z, q⟩ => ⟨by rw [← r.length]; exact z, ?_⟩)
  exact land I1 r z q
variable {o : Expr} {to : TE} {name : Str} {apos cpos : Pos} {id : String} {r : V → List V → Hp → VK → Prop}
def tBMN (K : PySem.W.Frag) (r : V → List V → Hp → VK → Prop) (to : TE) (t : TA) : TE := fun σ H Q => to σ H fun x H1 => (∃ p xs, x = .ref p ∧ NT K H1 p xs) ∧ t σ H1 fun vs H2 => r x vs H2 Q
theorem pe_bmN (slot : Slot "tuple" name id) (hty : typeOf (.builtin id) = pure (.type "method_descriptor")) (hm : MtR X id r) (ho : PE X o to) (ha : PA X (e :: es) t)
    (hbase : attributeBase o name X.env (eval o X.env) = eval o X.env := by rfl)
    (hfew : ((backTo cpos (starEach (e :: es) X.env)).all (fun x => !x.1) && (backToKw cpos (keywordEach [] X.env)).all (fun x => x.1.isSome)
      && decide ((e :: es).length + ([] : List Keyword).length + (if ([] : List Keyword).isEmpty then 0 else 1) < 30)) = true := by rfl)
    (hline : (apos.endLine == cpos.line) = true := by rfl) (hs : starEach (e :: es) X.env = (false, eval e X.env) :: starEach es X.env := by rfl) (hplain : (backTo cpos (starEach es X.env)).any (·.1) = false := by rfl) :
    PE X (.Call (.Attribute o name apos) (e :: es) [] cpos) (tBMN X.K r to t) := by
  refine ⟨fun pins s σ H Q I h => ?_⟩
  refine wpAny_Call_method_late hbase hfew hline rfl (thn (ho.run pins s σ H _ I h) fun v s1 ⟨x, H1, I1, r1, ⟨p, xs, ep, ty⟩, q1⟩ => ?_)
  subst ep
  cases r1
  obtain ⟨its, rr, pl, hz⟩ := I1.tuple ty.1
  have h2 : ∀ a, Value.ref p = .ref a → ∃ ob, s1.heap.get? a = some ob ∧ ob.dict = none := by
    intro a ea
    cases ea
    rcases ty.2 with ⟨ob, e1, e2⟩ | ⟨ob, e1, _, e2⟩
    · have := I1.hok p _ e1
      exact ⟨ob, this.1, e2⟩
    · exact ⟨ob, I1.kIn p ob e1, e2⟩
  refine ⟨"tuple", id, PySem.F.plainAttrs_tuple, slot, hty, pl.typeIs, h2, ?_⟩
  have hA := ha.run cpos pins s1 σ H1 _ I1 q1
  rw [hs] at hA ⊢
  refine Calls.callWith_builtin (by show (false || (backTo cpos (starEach es X.env)).any (·.1)) = false; rw [hplain] <;> rfl) (Calls.evalArgs_plain ?_)
  exact thn hA fun us s2 ⟨vs, H2, I2, r2, q2⟩ => hm pins s2 σ H2 (.ref p) vs (.ref p) us Q I2 rfl r2 q2
end
end Tn

namespace Mw
open PySem L2 SX
theorem cut_suf (xs : List V) (i : Nat) (h : i ≤ xs.length) : cutV xs (some (i : Int)) none = xs.drop i := by
  unfold cutV
  rw [HT.sIx_none, HT.sIx_nat, Nat.min_eq_left h, List.take_of_length_le]
  rw [List.length_drop]
  exact Nat.le_refl _
theorem sub_drop {α : Type} {a : α} : ∀ {L r : List α} {j : Nat}, L.Nodup → (a :: r).Sublist L → L[j]? = some a → r.Sublist (L.drop (j + 1))
  | [], _, _, _, h, _ => by cases h
  | b :: L, r, j, nd, h, hj => by
    obtain ⟨n1, n2⟩ := List.nodup_cons.mp nd
    cases j with
    | zero =>
      have e : b = a := by simpa using hj
      subst e
      rcases h with h | h
      · rename_i h
        exact absurd (h.subset (by simp)) n1
      · rename_i h
        exact h
    | succ j =>
      have hj' : L[j]? = some a := by simpa using hj
      have ham : a ∈ L := List.mem_of_getElem? hj'
      rcases h with h | h
      · rename_i h
        show r.Sublist (L.drop (j + 1))
        exact sub_drop n2 h hj'
      · exact absurd ham n1
/-- an instance of the list of a language's first place -/
theorem first_at {a : Str} : ∀ {L : List Str}, a ∈ L → ∃ j : Nat, L[j]? = some a ∧ ∀ m, m < j → L[m]? ≠ some a
  | b :: L, h => by
    by_cases e : b = a
    · exact ⟨0, by rw [e]; rfl, fun m hm => absurd hm (Nat.not_lt_zero _)⟩
    · have h' : a ∈ L := by
        rcases List.mem_cons.mp h with h | h
        · exact absurd h.symm e
        · exact h
      obtain ⟨j, h1, h2⟩ := first_at h'
      refine ⟨j + 1, by simpa using h1, fun m hm => ?_⟩
      cases m with
      | zero => simpa using e
      | succ m => simpa using h2 m (Nat.lt_of_succ_lt_succ hm)
/-- for i, x in enumerate(xs, start=c) -/
theorem for_enumC {K : PySem.W.Frag} {a : Addr} {c : Int} {xs : List V} {g : TG} {tb : TS} {D : Ends} {σ : L2.St} {H : Hp} (Pv : Nat → L2.St → Hp → Prop) (h0 : Pv 0 σ H) (hl : ∀ i σ H, i ≤ xs.length → Pv i σ H → SqL K H a xs)
    (hs : ∀ i x σ H T, xs[i]? = some x → Pv i σ H → H T = none → g (.ref T) σ (upd H T (.tup [.int (c + (i : Nat)), x])) fun σ2 H2 => tb { D with nx := Pv (i + 1), ct := Pv (i + 1), bk := D.nx } σ2 H2) (hd : ∀ σ H, Pv xs.length σ H → D.nx σ H) :
    ∃ W : Nat → Nat → L2.St → Hp → Prop, (∃ m, W 0 m σ H) ∧ ∀ i m σ H, W i m σ H →
      ((En.IteC K a c).stop i H ∧ D.nx σ H) ∨ ((En.IteC K a c).go i H ∧ ∃ N : L2.St → Hp → Prop, (∀ σ' H', N σ' H' → ∃ m', m' < m ∧ W (i + 1) m' σ' H') ∧ ∀ x H', (En.IteC K a c).yld i H x H' → g x σ H' fun σ2 H2 => tb { D with nx := N, ct := N, bk := D.nx } σ2 H2) := by
  refine ⟨fun i m σ H => m = xs.length - i ∧ i ≤ xs.length ∧ Pv i σ H, ⟨xs.length, rfl, Nat.zero_le _, h0⟩, ?_⟩
  rintro i m σ H ⟨rfl, hi, p⟩
  have q := hl i σ H hi p
  by_cases hlt : i < xs.length
  · refine .inr ⟨⟨xs, xs[i], q, List.getElem?_eq_getElem hlt⟩, Pv (i + 1), fun σ' H' p' => ⟨xs.length - (i + 1), by omega, rfl, hlt, p'⟩, fun x H' y => ?_⟩
    obtain ⟨T, y, rfl, hT, rfl, hy⟩ := y
    exact hs i y σ H T (hy xs q) p hT
  · have e : i = xs.length := by omega
    subst e
    exact .inl ⟨⟨xs, q, Nat.le_refl _⟩, hd σ H p⟩
section
variable {P : Program} {w : World} {K : PySem.W.Frag} {mg : Str → Option Value} {base : Heap} {C : Addr}
/-! ### parse_language -/
abbrev sPg : Stmt := top 23
theorem scPg : FnScope ["text", "rules", "allowed", "lines", "line", "row", "rule"] ["text"] (defScope sPg) := ⟨rfl, rfl, rfl, by decide +kernel, rfl, by decide +kernel, by decide +kernel⟩
def spPg (C : Addr) : Sp := fun vs H Q _ => ∃ rs : List Rule, vs = [.str (S (lanT rs))] ∧ LanOk rs ∧ ∀ v H', Same H H' → LanAt C H' rs v → Q v H'
theorem ok_pg {f fU fI ca : Addr} {fd fdU fdI : FuncData} (F : Fun K "parse_language" "parse_language" sPg f fd)
    (GU : FnOk P w K mg base CX0 6 fU fdU ["text", "line", "allowed"] (spPu K)) (bU : Binds K fdU ["text", "line", "allowed"] []) (kU : PySem.W.keepIn K (.ref fU) = true) (mU : mg "parse_rule" = some (.ref fU))
    (M : Mk K C fI) (mC : mg "Language" = some (.ref C)) (gI : FnOk P w K mg base CX0 2 fI fdI ["self", "rules"] (spLi C)) (bI : Binds K fdI ["self", "rules"] [])
    (mCat : mg "CATEGORIES" = some (.ref ca)) (hCat : ∀ H, Tn.NT K H ca (cats.map V.str)) (me : mg "enumerate" = none) : FnOk P w K mg base CX0 7 f fd ["text"] (spPg C) := by
  refine F.ok scPg (fun vs H Q E h => ?_) (fun cdv A outer s H vs Q E hr h => ?_)
  · obtain ⟨rs, rfl, _⟩ := h
    rfl
  obtain ⟨rs, rfl, hok, q⟩ := h
  have nd := scPg.nd
  refine ⟨_, (pss_cons (ps_set (i := 1) nd rfl (.inl rfl) (pe_lst pa_nil))
      (pss_cons (ps_set (i := 2) nd rfl (.inl rfl) (pe_glob rfl mCat (v := .ref ca) rfl))
      (Evl.pss_cut (ps_set (i := 3) nd rfl (.inl rfl) (pe_ifExp (pt_truth (pv 0) (by intro _; rfl)) (pe_split (pv 0) pe_str) (pe_lst pa_nil)))
      (pss_cons (ps_for PassesOwn.never rfl (En.pi_enumC rfl me (pa_cons (pv 3) pa_nil) (pk_cons pe_int pk_nil)) (pg_tup rfl (pgs_cons (pg_name (i := 4) nd rfl (.inl rfl)) (pgs_cons (pg_name (i := 5) nd rfl (.inl rfl)) pgs_nil))) (pss_cons (ps_set (i := 6) nd rfl (.inl rfl) (pe_call GU hr rfl mU kU bU .nil pass0 (pa_cons (pv 5) (pa_cons (pv 4) (pa_cons (pv 2) pa_nil)))))
      (pss_cons (ps_expr (pe_bm PySem.F.plainAttrs_list PySem.F.slot_list_append PySem.F.type_list_append mt_append (pv 1) (pa_cons (pv 6) pa_nil)))
      (pss_one (ps_set (i := 2) nd rfl (.inl rfl) (pe_slice Tn.sl (pv 2) (po_some (pe_op op_add (Tn.pe_bmN PySem.F.slot_tuple_index PySem.F.type_tuple_index Tx1.mt_idxS (pv 2) (pa_cons (pe_ix ix_tup (pv 6) pe_int (fun _ _ => rfl)) pa_nil)) pe_int)) po_none))))))
      (pss_one (ps_ret (pe_make M gI (hr.mono (by decide)) rfl mC bI .nil pass0 (pa_cons (pv 1) pa_nil)))))))), ?_⟩
  refine ⟨Nat.zero_le _, fun rl hrl => ?_⟩
  generalize hH0 : upd H rl (.lst []) = HR
  have s0 : Same H HR := by rw [← hH0]; exact same_new hrl _
  have hr0 : HR rl = some (.lst []) := by rw [← hH0]; exact upd_same
  have hlan := lan_len hok
  obtain ⟨hl5, hin⟩ := lan_in hok
  refine ⟨fun σ' H' => ∃ lp, σ' = [some (.str (S (lanT rs))), some (.ref rl), some (.ref ca), some (.ref lp), none, none, none] ∧ Same HR H' ∧ H' lp = some (.lst (sts (rs.map ruT))) ∧ lp ≠ rl, ?_, ?_⟩
  · refine ⟨_, rfl, _, ⟨s_line (by omega), rfl⟩, ?_⟩
    by_cases c : rs = []
    · subst c
      exact iteF ⟨Nat.zero_le _, fun lp hlp => ⟨lp, rfl, same_new hlp _, upd_same, (ne_of_none hr0 hlp).symm⟩⟩
    · have hn : lanT rs ≠ [] := fun e => c ((lan_nil hok).mp e)
      have h1 : ((((S (lanT rs)).length : Nat) : Int) != 0) = true := by
        rw [S_len]
        have := List.length_pos_iff.mpr hn
        simp only [bne_iff_ne]
        omega
      rw [h1]
      refine iteT ⟨_, rfl, ⟨_, rfl⟩, _, _, rfl, rfl, rfl, ?_, fun lp hlp => ?_⟩
      · rw [S_len]
        exact le_line (by omega)
      · rw [s_nl, lan_split c hok]
        exact ⟨lp, rfl, same_new hlp _, upd_same, (ne_of_none hr0 hlp).symm⟩
  rintro σ' H1 ⟨lp, rfl, s1, hlp, hne⟩
  refine ⟨_, rfl, lp, _, 1, rfl, rfl, SqL.of hlp, by decide, by decide, ?_⟩
  refine for_enumC (K := K) (a := lp) (xs := sts (rs.map ruT)) (fun i σ H' => ∃ (al : Addr) (k : Nat) (vs : List V) (o4 o5 o6 : Option V), σ = [some (.str (S (lanT rs))), some (.ref rl), some (.ref al), some (.ref lp), o4, o5, o6] ∧ H' lp = some (.lst (sts (rs.map ruT))) ∧ Same H H' ∧ (∀ b, H' b = none → HR b = none) ∧ H' rl = some (.lst vs) ∧ A2 (RuAt (fr HR H')) (rs.take i) vs ∧ Tn.NT K H' al ((cats.drop k).map V.str) ∧ ((rs.drop i).map (·.1)).Sublist (cats.drop k))
    ⟨ca, 0, [], none, none, none, rfl, hlp, s0.trans s1, fun b hb => s1.free hb, s1 _ _ hr0, rfl, hCat _, hok.1⟩ (fun i σ H' _ ⟨_, _, _, _, _, _, _, e, _⟩ => SqL.of e) ?_ ?_
  · rintro i x σ H2 T hx ⟨al, k, vs, o4, o5, o6, rfl, hlp2, s2, dm, hrl2, ha, hnt, hsub⟩ hT
    unfold sts at hx
    rw [List.getElem?_map, List.getElem?_map, List.getElem?_map] at hx
    cases hz : rs[i]? with
    | none => rw [hz] at hx; cases hx
    | some r =>
      rw [hz] at hx
      cases hx
      have hi := get_lt hz
      have hvl := ha.length
      rw [List.length_take] at hvl
      obtain ⟨hc, hco⟩ := hin r (List.mem_of_getElem? hz)
      have hdr : rs.drop i = r :: rs.drop (i + 1) := by
        rw [List.drop_eq_getElem_cons hi, (List.getElem?_eq_some_iff.mp hz).2]
      rw [hdr, List.map_cons] at hsub
      have hmem : r.1 ∈ cats.drop k := hsub.subset (by simp)
      have sT : Same H2 (upd H2 T (.tup [.int (1 + (i : Nat)), .str (S (ruT r))])) := same_new hT _
      have hnt' := Tn.same sT hnt
      refine ⟨T, _, rfl, .inl (.inl upd_same), rfl, _, _, rfl, _, [], rfl, rfl, ?_⟩
      refine ⟨_, rfl, _, rfl, _, rfl, r, _, al, cats.drop k, rfl, hnt'.1, hmem, hc, hco, fun p v H3 s3 hp0 hp3 hv => ?_⟩
      have s23 := sT.trans s3
      have hrl3 := s23 _ _ hrl2
      have prl : p ≠ rl := by rintro rfl; rw [sT _ _ hrl2] at hp0; cases hp0
      refine ⟨_, rfl, .inl ⟨rfl, _, SqL.of hrl3⟩, _, rfl, rl, vs, _, rfl, rfl, hrl3, sz_line (by omega), ?_⟩
      generalize hH4 : upd H3 rl (.lst (vs ++ [.ref p])) = H4
      have tk : ∀ b o, b ≠ rl → H3 b = some o → H4 b = some o := fun b o n h => by
        rw [← hH4, upd_ne n]
        exact h
      have hnt3 := Tn.same s3 hnt'
      have hnt4 : Tn.NT K H4 al ((cats.drop k).map V.str) := by
        have key : ∀ {xs : List V}, SqT K H3 al xs → SqT K H4 al xs := fun {xs} h => by
          rcases h with (h | ⟨fo, h⟩) | h
          · exact .inl (.inl (tk _ _ (by rintro rfl; rw [hrl3] at h; cases h) h))
          · exact .inl (.inr ⟨fo, tk _ _ (by rintro rfl; rw [hrl3] at h; cases h) h⟩)
          · exact .inr h
        refine ⟨key hnt3.1, ?_⟩
        rcases hnt3.2 with ⟨ob, h, d⟩ | h
        · exact .inl ⟨ob, tk _ _ (by rintro rfl; rw [hrl3] at h; cases h) h, d⟩
        · exact .inr h
      have hp4 : H4 p = some (.tup [.str r.1, v]) := tk _ _ prl hp3
      obtain ⟨j, hj, hjm⟩ := first_at hmem
      have hjl := get_lt hj
      refine ⟨_, rfl, _, rfl, ⟨al, _, rfl, hnt4⟩, _, rfl, p, _, 0, .str r.1, rfl, rfl, .inl (.inl hp4), atI_nat (j := 0) rfl, al, cats.drop k, r.1, j, rfl, rfl, hnt4.1, hj, hjm, ?_⟩
      refine ⟨_, _, rfl, rfl, ?_⟩
      refine ⟨_, rfl, al, _, rfl, hnt4, fun p5 H5 s5 hnt5 => ?_⟩
      rw [show ((j : Int) + 1) = ((j + 1 : Nat) : Int) by omega, cut_suf _ _ (by rw [List.length_map]; omega), ← List.map_drop, List.drop_drop] at hnt5
      have hlp4 : H4 lp = some (.lst (sts (rs.map ruT))) := tk _ _ hne (s23 _ _ hlp2)
      have hrl4 : H4 rl = some (.lst (vs ++ [.ref p])) := by rw [← hH4]; exact upd_same
      have sH4 : Same H H4 := fun b o h => tk _ _ (by rintro rfl; rw [hrl] at h; cases h) (s23 _ _ (s2 _ _ h))
      have d4 : ∀ b, H4 b = none → HR b = none := fun b hb => dm b (s23.free (by
        by_cases e : b = rl
        · subst e; rw [hrl4] at hb; cases hb
        · rw [← hH4, upd_ne e] at hb; exact hb))
      have S4 : Same (fr HR H3) (fr HR H4) := by rw [← hH4]; exact fr_mut hr0 _
      have S5 : Same (fr HR H4) (fr HR H5) := fr_same s5
      have hnd : (cats.drop k).Nodup := (by decide : cats.Nodup).sublist (List.drop_sublist _ _)
      have hs5 := sub_drop hnd hsub hj
      rw [List.drop_drop] at hs5
      refine ⟨p5, k + (j + 1), vs ++ [.ref p], _, _, _, rfl, s5 _ _ hlp4, sH4.trans s5, fun b hb => d4 b (s5.free hb), s5 _ _ hrl4, ?_, hnt5, hs5⟩
      rw [show rs.take (i + 1) = rs.take i ++ [r] by rw [List.take_add_one, hz]; rfl]
      refine A2.snoc (ha.mono fun x v h => RuAt.same (((fr_same s23).trans S4).trans S5) x v h) ⟨p, v, rfl, ?_, ConAt.same (((fr_dom fun b hb => dm b (sT.free hb)).trans S4).trans S5) r.2 v hv⟩
      rw [fr_new (dm p (sT.free hp0))]
      exact s5 _ _ hp4
  · rintro σ H2 ⟨al, k, vs, o4, o5, o6, rfl, hlp2, s2, dm, hrl2, ha, hnt, hsub⟩
    rw [show rs.take (sts (rs.map ruT)).length = rs by rw [sts_len]; simp] at ha
    refine ⟨_, rfl, fun o dx ho hdx ne => ?_⟩
    have hvl := ha.length
    have SH : Same (fr HR H2) (hids [o] (upd (upd H2 dx (.own o)) o (.ins C dx []))) := fun a u h => by
      obtain ⟨_, h⟩ := fr_in h
      have ao : a ≠ o := by rintro rfl; rw [ho] at h; cases h
      rw [hids_ne (by simpa using ao), upd_ne ao, upd_ne (by rintro rfl; rw [hdx] at h; cases h)]
      exact h
    have rlo : rl ≠ o := by rintro rfl; rw [ho] at hrl2; cases hrl2
    refine ⟨o, dx, .ref rl, rs, [], rfl, upd_same, (fun b hb => by cases hb), ⟨rl, vs, rfl, ?_, ha.mono fun x v h => RuAt.same SH x v h, by omega⟩, fun q' H' keep ho' hq' => ⟨rfl, ?_⟩⟩
    · rw [hids_ne (by simpa using rlo), upd_ne rlo, upd_ne (by rintro rfl; rw [hdx] at hrl2; cases hrl2)]
      exact hrl2
    · refine q _ _ (fun a u h => ?_) ⟨o, dx, q', rfl, ho', RusAt.same (fun a u h => (hids_in h).2) rs q' hq'⟩
      have h2 := s2 _ _ h
      have ao : a ≠ o := by rintro rfl; rw [ho] at h2; cases h2
      exact keep a u (by rw [upd_ne ao, upd_ne (by rintro rfl; rw [hdx] at h2; cases h2)]; exact h2) ao
end
end Mw

namespace Mw
open PySem L2 SX
/-! ### the law's data in plain form -/
def dRg (r : Rg) : PyData := .tuple [.int r.1, .int r.2]
def dRel (x : Rel) : PyData := .tuple [.int x.1, .bool x.2.1, .list (x.2.2.map dRg)]
def dRow (x : List Rel) : PyData := .list (x.map dRel)
def dCon (x : List (List Rel)) : PyData := .list (x.map dRow)
def dRu (r : Rule) : PyData := .tuple [.str r.1, dCon r.2]
def dRus (x : List Rule) : PyData := .list (x.map dRu)
theorem dp_all {α : Type} {K : PySem.W.Frag} {H : Hp} {R : α → V → Prop} {d : α → PyData} (f : ∀ x v, R x v → Dp K H v (d x)) : ∀ {xs : List α} {vs : List V}, A2 R xs vs → DpAll K H vs (xs.map d)
  | [], _, e => by rw [show _ = [] from e]; exact .nil
  | x :: xs, _, e => by
    obtain ⟨v, ws, rfl, h1, h2⟩ := e
    exact .cons (f _ _ h1) (dp_all f h2)
theorem dp_ls {α : Type} {K : PySem.W.Frag} {H : Hp} {R : Hp → α → V → Prop} {d : α → PyData} (f : ∀ x v, R H x v → Dp K H v (d x)) {xs : List α} {v : V} (h : Ls R H xs v) : Dp K H v (.list (xs.map d)) := by
  obtain ⟨r, vs, rfl, h1, h2, _⟩ := h
  exact .lst (SqL.of h1) (dp_all f h2)
theorem dp_rg {K : PySem.W.Frag} {H : Hp} (x : Rg) (v : V) (h : RgAt H x v) : Dp K H v (dRg x) := by
  obtain ⟨p, rfl, hp⟩ := h
  exact .tup (.inl (.inl hp)) (.cons (.int _) (.cons (.int _) .nil))
theorem dp_rel {K : PySem.W.Frag} {H : Hp} (x : Rel) (v : V) (h : RelAt H x v) : Dp K H v (dRel x) := by
  obtain ⟨p, q, rfl, hp, h2, _⟩ := h
  exact .tup (.inl (.inl hp)) (.cons (.int _) (.cons (.bl _) (.cons (dp_ls dp_rg h2) .nil)))
theorem dp_ru {K : PySem.W.Frag} {H : Hp} (x : Rule) (v : V) (h : RuAt H x v) : Dp K H v (dRu x) := by
  obtain ⟨p, q, rfl, hp, h2⟩ := h
  exact .tup (.inl (.inl hp)) (.cons (.str _) (.cons (dp_ls (fun _ _ h => dp_ls dp_rel h) h2) .nil))
theorem dp_rus {K : PySem.W.Frag} {H : Hp} {x : List Rule} {v : V} (h : RusAt H x v) : Dp K H v (dRus x) := dp_ls dp_ru h
theorem map_ok {α : Type} {d : α → PyData} {n : Nat} : ∀ {xs : List α}, (∀ x ∈ xs, (d x).canLay0 = true ∧ (d x).depth ≤ n) → PyData.canLayAll0 (xs.map d) = true ∧ PyData.depthAll (xs.map d) ≤ n
  | [], _ => ⟨rfl, Nat.zero_le _⟩
  | x :: xs, h => by
    obtain ⟨h1, h2⟩ := h x List.mem_cons_self
    obtain ⟨a, b⟩ := map_ok fun y hy => h y (List.mem_cons_of_mem _ hy)
    simp only [List.map_cons, PyData.canLayAll0, PyData.depthAll]
    exact ⟨by rw [h1, a]; rfl, by omega⟩
theorem ls_ok {α : Type} {d : α → PyData} {n : Nat} {xs : List α} (h : ∀ x ∈ xs, (d x).canLay0 = true ∧ (d x).depth ≤ n) : (PyData.list (xs.map d)).canLay0 = true ∧ (PyData.list (xs.map d)).depth ≤ n + 1 := by
  obtain ⟨a, b⟩ := map_ok h
  simp only [PyData.canLay0, PyData.depth]
  exact ⟨a, by omega⟩
theorem dRg_ok (x : Rg) : (dRg x).canLay0 = true ∧ (dRg x).depth ≤ 1 := by
  unfold dRg
  simp only [PyData.canLay0, PyData.canLayAll0, PyData.depth, PyData.depthAll]
  decide
theorem dRel_ok (x : Rel) : (dRel x).canLay0 = true ∧ (dRel x).depth ≤ 3 := by
  obtain ⟨a, b⟩ := ls_ok (d := dRg) (n := 1) (xs := x.2.2) fun y _ => dRg_ok y
  unfold dRel
  simp only [PyData.canLay0, PyData.canLayAll0, PyData.depth, PyData.depthAll] at a b ⊢
  exact ⟨by rw [a]; rfl, by omega⟩
theorem dRu_ok (x : Rule) (h : x.1 ∈ cats) : (dRu x).canLay0 = true ∧ (dRu x).depth ≤ 6 := by
  obtain ⟨a, b⟩ := ls_ok (d := dRow) (n := 4) (xs := x.2) fun y _ => ls_ok (d := dRel) (n := 3) fun z _ => dRel_ok z
  have c : ∀ n ∈ cats, PyData.strOk n = true := by decide +kernel
  unfold dRu dCon
  simp only [PyData.canLay0, PyData.canLayAll0, PyData.depth, PyData.depthAll] at a b ⊢
  exact ⟨by rw [a, c _ h]; rfl, by omega⟩
theorem rus_shaped {rs : List Rule} (h : LanOk rs) : SeqAt.shaped (dRus rs) = true := by
  obtain ⟨a, b⟩ := ls_ok (d := dRu) (n := 6) (xs := rs) fun y hy => dRu_ok y (h.1.subset (List.mem_map_of_mem hy))
  unfold SeqAt.shaped dRus
  rw [Bool.and_eq_true]
  exact ⟨a, decide_eq_true (by omega)⟩
section
variable {P : Program} {w : World} {K : PySem.W.Frag} {mg : Str → Option Value} {base : Heap} {C : Addr}
abbrev sLaw : Stmt := top 35
abbrev nLaw : List Str := ["script", "box", "rules", "text", "told", "rule"]
theorem scLaw : FnScope nLaw ["script"] (defScope sLaw) := ⟨rfl, rfl, rfl, by decide +kernel, rfl, by decide +kernel, by decide +kernel⟩
def spLaw (K : PySem.W.Frag) : Sp := fun vs H Q _ => ∃ (a : Addr) (ns : List Int), vs = [.ref a] ∧ SqL K H a (ns.map V.int) ∧ ∀ H', Q (.bl true) H'
theorem ok_law {f fG fU fW fI fF fP : Addr} {fd fdG fdU fdW fdI fdF fdP : FuncData} (F : Fun K "law" "law" sLaw f fd) (Lc : LC K C)
    (gG : FnOk P w K mg base CX0 2 fG fdG ["script", "first", "last"] (spDigits K)) (bG : Binds K fdG ["script", "first", "last"] []) (kG : PySem.W.keepIn K (.ref fG) = true) (mG : mg "_law_digits" = some (.ref fG))
    (gU : FnOk P w K mg base CX0 4 fU fdU ["box"] spLu) (bU : Binds K fdU ["box"] []) (kU : PySem.W.keepIn K (.ref fU) = true) (mU : mg "_law_rules" = some (.ref fU))
    (gW : FnOk P w K mg base CX0 2 fW fdW ["rule"] spLw) (bW : Binds K fdW ["rule"] []) (kW : PySem.W.keepIn K (.ref fW) = true) (mW : mg "_law_line" = some (.ref fW))
    (M : Mk K C fI) (mC : mg "Language" = some (.ref C)) (gI : FnOk P w K mg base CX0 2 fI fdI ["self", "rules"] (spLi C)) (bI : Binds K fdI ["self", "rules"] [])
    (gF : FnOk P w K mg base CX0 4 fF fdF ["language"] (spFg C)) (bF : Binds K fdF ["language"] []) (kF : PySem.W.keepIn K (.ref fF) = true) (mF : mg "format_language" = some (.ref fF))
    (gP : FnOk P w K mg base CX0 7 fP fdP ["text"] (spPg C)) (bP : Binds K fdP ["text"] []) (kP : PySem.W.keepIn K (.ref fP) = true) (mP : mg "parse_language" = some (.ref fP))
    (mi : mg "isinstance" = none) (mL : mg "list" = none) :
    FnOk P w K mg base CX0 8 f fd ["script"] (spLaw K) := by
  refine F.ok scLaw (fun vs H Q E h => ?_) (fun cdv A outer s H vs Q E hr h => ?_)
  · obtain ⟨a, ns, rfl, _⟩ := h
    rfl
  obtain ⟨a, ns, rfl, hS, q⟩ := h
  have nd := scLaw.nd
  refine ⟨_, (pss_cons (ps_set (i := 1) nd rfl (.inl rfl) (pe_lst (pa_cons (pe_call gG (hr.mono (by decide)) rfl mG kG bG .nil pass0 (pa_cons (pv 0) (pa_cons pe_int (pa_cons pe_int pa_nil)))) (pa_cons pe_int pa_nil))))
      (pss_cons (ps_set (i := 2) nd rfl (.inl rfl) (pe_call gU (hr.mono (by decide)) rfl mU kU bU .nil pass0 (pa_cons (pv 1) pa_nil)))
      (pss_cons (ps_set (i := 3) nd rfl (.inl rfl) (pe_join pe_str (pe_lc (own := [("rule", 5)]) (g := (gName 5)) (tt := tYes) (te := tCall spLw [] E0 (tCons (tVar 5) tNil)) rfl nd (pi_list (pv 2)) (blkOk_by (N := nLaw) (sc := defScope sLaw) (by decide +kernel)) (fun _ _ _ _ _ => (pg_name (i := 5) nd rfl (.inl rfl))) (fun _ _ _ _ _ => pts_nil) (fun _ _ _ _ _ => (pe_call gW (hr.mono (by decide)) rfl mW kW bW .nil pass0 (pa_cons (pv 5) pa_nil))))))
      (pss_cons (ps_if (pt_cmpR op_ne (pe_call gF (hr.mono (by decide)) rfl mF kF bF .nil pass0 (pa_cons (pe_make M gI (hr.mono (by decide)) rfl mC bI .nil pass0 (pa_cons (pv 2) pa_nil)) pa_nil)) (pv 3) (nomark _)) (pss_one (ps_ret pe_bl)) pss_nil)
      (pss_cons (ps_set (i := 4) nd rfl (.inl rfl) (pe_call gP (hr.mono (by decide)) rfl mP kP bP .nil pass0 (pa_cons (pv 3) pa_nil)))
      (pss_cons (ps_if (PW.pt (pw_or (pt_not (pt_val (pe_callB call_isi (by rfl) mi (by decide +kernel) (pa_cons (pe_fld (pv 4) rfl) (pa_cons (pe_bltn (v := .ty "list") (by rfl) mL (by decide +kernel) rfl) pa_nil))))) (pw_or (pt_cmpR (op_neD hr.units) (pe_fld (pv 4) rfl) (pv 2) (nomark _)) (pw_or1 (pt_cmpR op_ne (pe_call gF (hr.mono (by decide)) rfl mF kF bF .nil pass0 (pa_cons (pv 4) pa_nil)) (pv 3) (nomark _)))))) (pss_one (ps_ret pe_bl)) pss_nil)
      (pss_one (ps_ret (pe_cmpR (op_eqD hr.units) (pe_fld (pe_call gP (hr.mono (by decide)) rfl mP kP bP .nil pass0 (pa_cons pe_str pa_nil)) rfl) (pe_lst pa_nil) (nomark _)))))))))), ?_⟩
  refine ⟨_, rfl, a, ns, rfl, hS, fun d H1 ds hd0 s1 hd => ⟨by show 2 ≤ sizeLine; decide, fun B hB => ?_⟩⟩
  have ndB : d ≠ B := ne_of_none hd hB
  generalize hH0 : upd H1 B (.lst [.ref d, .int 0]) = H0
  have hB0 : H0 B = some (.lst [.ref d, .int 0]) := by rw [← hH0]; exact upd_same
  have hbox : Box H0 B d := ⟨ds, 0, hB0, by rw [← hH0, upd_ne ndB]; exact hd, Int.le_refl 0⟩
  refine ⟨_, rfl, B, d, rfl, hbox, fun vr rs H3 g3 b3 hrs hok => ?_⟩
  have hrs3 : RusAt H3 rs vr := hrs.same fr_out
  obtain ⟨r, rvs, rfl, hr1, ha, hl⟩ := id hrs3
  have hlen := ha.length
  obtain ⟨hl5, hin⟩ := lan_in hok
  -- the text
  refine ⟨⟨_, rfl⟩, _, rfl, r, rfl, ⟨_, SqL.of hr1⟩, fun D hD => ?_⟩
  refine lc_list (xs := rvs) (fun i H' => Same H3 H' ∧ H' D = some (.lst (sts ((rs.take i).map ruT)))) ⟨same_new hD _, upd_same⟩ (fun i H' _ ⟨s', _⟩ => SqL.of (s' _ _ hr1)) ?_ ?_
  · rintro i y H' hy ⟨s', hD'⟩
    obtain ⟨ru, hz, hru⟩ := A2.get ha hy
    obtain ⟨hc, hco⟩ := hin _ (List.mem_of_getElem? hz)
    have hi := get_lt hz
    refine ⟨rfl, _, rfl, y, ru, rfl, RuAt.same s' _ _ hru, hc, hco, fun H2 s2 => ⟨_, s2 _ _ hD', sz_line ?_, same_mut (s'.trans s2) hD _, ?_⟩⟩
    · rw [sts_len, List.length_map, List.length_take]
      omega
    · rw [upd_same, take_map ruT hz, sts_snoc]
  rintro H4 ⟨s4, hD4⟩
  rw [hlen, List.take_length] at hD4
  refine ⟨_, D, (rs.map ruT).map S, rfl, rfl, .inl (SqL.of hD4), ?_, ?_⟩
  · rw [s_nl]
    exact join_ok (a := [10]) (N := 706) (by decide) (by rw [List.length_map]; omega) (fun p hp => by
      obtain ⟨g, hg, rfl⟩ := List.mem_map.mp hp
      exact ru_len (hin g hg).1 (hin g hg).2) (by decide)
  have ej : Txt.join (("\n" : String) : Str) ((rs.map ruT).map S) = S (lanT rs) := by
    rw [s_nl, join_S]
    rfl
  rw [ej]
  -- the language of the box's rules
  refine ⟨_, rfl, fun o dx ho hdx ne => ?_⟩
  have S2 : Same H4 (upd (upd H4 dx (.own o)) o (.ins C dx [])) := same_mut (same_new hdx _) ho _
  have hrs4 := hrs3.same s4
  have hrsE : RusAt (hids [] H4) rs (.ref r) := hrs4.same fun a u h => by rw [hids_ne (by simp)]; exact h
  refine ⟨o, dx, _, rs, [], rfl, upd_same, (fun b hb => by cases hb), hrsE.same (hids_add ho S2), fun q3 HL k3 ho3 hq3 => ⟨rfl, ?_⟩⟩
  have S3 : Same H4 HL := fun b u h => k3 b u (S2 b u h) (by rintro rfl; rw [ho] at h; cases h)
  refine ⟨_, rs, rfl, ⟨o, dx, q3, rfl, ho3, hq3.same fun a u h => (hids_in h).2⟩, hok, fun H5 s5 => ?_⟩
  refine ⟨_, rfl, rfl, _, rfl, ?_⟩
  rw [show (!decide (V.str (S (lanT rs)) = V.str (S (lanT rs)))) = false by simp]
  refine iteF ?_
  -- read back
  refine ⟨_, rfl, rs, rfl, hok, fun v H6 s6 hv => ?_⟩
  obtain ⟨o6, dx6, q6, rfl, ho6, hq6⟩ := id hv
  have fld : ∀ (H' : Hp) (Q : VK), H' o6 = some (.ins C dx6 [("rules", q6)]) → Q q6 H' → tFld K (tVar 4) "rules" [some (.ref a), some (.ref B), some (.ref r), some (.str (S (lanT rs))), some (.ref o6), none] H' Q := fun H' Q h q => ⟨_, rfl, o6, C, dx6, _, q6, rfl, h, Lc.c, Lc.nr, rfl, q⟩
  obtain ⟨r6, vs6, rfl, hr6, _, _⟩ := id hq6
  refine fld _ _ ho6 ⟨_, .ty "list", .type "list", .type "list", true, rfl, .ty "list", .base (.lst hr6), kit_ty (by decide +kernel), true, rfl, ?_⟩
  have sh := rus_shaped hok
  have s46 : Same H4 H6 := (S3.trans s5).trans s6
  refine ⟨_, rfl, o6, C, dx6, _, .ref r6, rfl, ho6, Lc.c, Lc.nr, rfl, ?_⟩
  refine ⟨_, rfl, dRus rs, dRus rs, dp_rus hq6, dp_rus (hrs4.same s46), sh, sh, ?_⟩
  rw [SeqAt.eqv_refl _ (SeqAt.canLay_of_shaped sh)]
  refine ⟨_, rfl, ?_⟩
  refine ⟨_, rfl, _, rs, rfl, hv, hok, fun H7 s7 => ⟨_, rfl, rfl, _, rfl, ?_⟩⟩
  rw [show (!decide (V.str (S (lanT rs)) = V.str (S (lanT rs)))) = false by simp]
  refine iteF ?_
  -- the empty text
  have hok0 : LanOk [] := ⟨by decide, fun r hr => by cases hr⟩
  have e0 : ((("" : String) : Str)) = S (lanT []) := by decide +kernel
  refine ⟨[], ?_, hok0, fun v8 H8 s8 hv8 => ?_⟩
  · rw [e0]
    rfl
  obtain ⟨o8, dx8, q8, rfl, ho8, hq8⟩ := hv8
  refine ⟨o8, C, dx8, _, q8, rfl, ho8, Lc.c, Lc.nr, rfl, Nat.zero_le _, fun e he => ?_⟩
  have hq9 := dp_rus (K := K) (hq8.same (same_new he (.lst [])))
  exact ⟨.list [], .list [], hq9, .lst (SqL.of upd_same) .nil, rfl, rfl, q _⟩
end
end Mw

namespace Mw
open PySem L2
theorem all_mk {l : PySem.W.OpenLaw} {w : World} {K : PySem.W.Frag} {h : Heap} {mg : Str → Option Value} {fa f1 f2 f3 f4 f5 f6 f7 f8 f9 f10 f11 f12 f13 f14 f15 f16 f17 f18 f19 f20 f21 f22 C fI ca : Addr} (X : K.In h) (G : h.Ns mainGlobals mg) (hfa : mg "law" = some (.ref fa))
    {od1 an1 od2 an2 od3 an3 od4 an4 od5 an5 od6 an6 od7 an7 od8 an8 od9 an9 od10 an10 od11 an11 od12 an12 od13 an13 od14 an14 od15 an15 od16 an16 od17 an17 od18 an18 od19 an19 od20 an20 od21 an21 od22 an22 odI anI : Option Addr} {sl1 sl2 sl3 sl4 sl5 sl6 sl7 sl8 sl9 sl10 sl11 sl12 sl13 sl14 sl15 sl16 sl17 sl18 sl19 sl20 sl21 sl22 slI sC : Array (Option Value)} {oc1 kV1 dc1 pm1 cd1 ct1 oc2 kV2 dc2 pm2 cd2 ct2 oc3 kV3 dc3 pm3 cd3 ct3 oc4 kV4 dc4 pm4 cd4 ct4 oc5 kV5 dc5 pm5 cd5 ct5 oc6 kV6 dc6 pm6 cd6 ct6 oc7 kV7 dc7 pm7 cd7 ct7 oc8 kV8 dc8 pm8 cd8 ct8 oc9 kV9 dc9 pm9 cd9 ct9 oc10 kV10 dc10 pm10 cd10 ct10 oc11 kV11 dc11 pm11 cd11 ct11 oc12 kV12 dc12 pm12 cd12 ct12 oc13 kV13 dc13 pm13 cd13 ct13 oc14 kV14 dc14 pm14 cd14 ct14 oc15 kV15 dc15 pm15 cd15 ct15 oc16 kV16 dc16 pm16 cd16 ct16 oc17 kV17 dc17 pm17 cd17 ct17 oc18 kV18 dc18 pm18 cd18 ct18 oc19 kV19 dc19 pm19 cd19 ct19 oc20 kV20 dc20 pm20 cd20 ct20 oc21 kV21 dc21 pm21 cd21 ct21 oc22 kV22 dc22 pm22 cd22 ct22 ocI kVI dcI pmI cdI ctI : Value} {u1 u2 u3 u4 u5 tF t1 t2 t3 t4 : Tok} {kC : Nat}
    (a1 : PySem.W.nsIn K mainGlobals "copied" = some (some (.ref f1))) (l1 : K.lookup f1 = some ⟨oc1, od1, .func (PySem.W.fnOf "copied" "copied" (defArgs sCd) (defBody sCd) (defScope sCd) .none kV1 dc1 pm1 an1 cd1 ct1), sl1⟩) (c1 : PySem.W.codeIn K cd1 "copied" = true) (k1 : PySem.W.keepIn K (.ref f1) = true)
    (a2 : PySem.W.nsIn K mainGlobals "format_range" = some (some (.ref f2))) (l2 : K.lookup f2 = some ⟨oc2, od2, .func (PySem.W.fnOf "format_range" "format_range" (defArgs sFr) (defBody sFr) (defScope sFr) .none kV2 dc2 pm2 an2 cd2 ct2), sl2⟩) (c2 : PySem.W.codeIn K cd2 "format_range" = true) (k2 : PySem.W.keepIn K (.ref f2) = true)
    (a3 : PySem.W.nsIn K mainGlobals "format_relation" = some (some (.ref f3))) (l3 : K.lookup f3 = some ⟨oc3, od3, .func (PySem.W.fnOf "format_relation" "format_relation" (defArgs sFl) (defBody sFl) (defScope sFl) .none kV3 dc3 pm3 an3 cd3 ct3), sl3⟩) (c3 : PySem.W.codeIn K cd3 "format_relation" = true) (k3 : PySem.W.keepIn K (.ref f3) = true)
    (a4 : PySem.W.nsIn K mainGlobals "format_condition" = some (some (.ref f4))) (l4 : K.lookup f4 = some ⟨oc4, od4, .func (PySem.W.fnOf "format_condition" "format_condition" (defArgs sFc) (defBody sFc) (defScope sFc) .none kV4 dc4 pm4 an4 cd4 ct4), sl4⟩) (c4 : PySem.W.codeIn K cd4 "format_condition" = true) (k4 : PySem.W.keepIn K (.ref f4) = true)
    (a5 : PySem.W.nsIn K mainGlobals "format_language" = some (some (.ref f5))) (l5 : K.lookup f5 = some ⟨oc5, od5, .func (PySem.W.fnOf "format_language" "format_language" (defArgs sFg) (defBody sFg) (defScope sFg) .none kV5 dc5 pm5 an5 cd5 ct5), sl5⟩) (c5 : PySem.W.codeIn K cd5 "format_language" = true) (k5 : PySem.W.keepIn K (.ref f5) = true)
    (a6 : PySem.W.nsIn K mainGlobals "parse_number" = some (some (.ref f6))) (l6 : K.lookup f6 = some ⟨oc6, od6, .func (PySem.W.fnOf "parse_number" "parse_number" (defArgs sPn) (defBody sPn) (defScope sPn) .none kV6 dc6 pm6 an6 cd6 ct6), sl6⟩) (c6 : PySem.W.codeIn K cd6 "parse_number" = true) (k6 : PySem.W.keepIn K (.ref f6) = true)
    (a7 : PySem.W.nsIn K mainGlobals "parse_modulus" = some (some (.ref f7))) (l7 : K.lookup f7 = some ⟨oc7, od7, .func (PySem.W.fnOf "parse_modulus" "parse_modulus" (defArgs sPm) (defBody sPm) (defScope sPm) .none kV7 dc7 pm7 an7 cd7 ct7), sl7⟩) (c7 : PySem.W.codeIn K cd7 "parse_modulus" = true) (k7 : PySem.W.keepIn K (.ref f7) = true)
    (a8 : PySem.W.nsIn K mainGlobals "parse_range" = some (some (.ref f8))) (l8 : K.lookup f8 = some ⟨oc8, od8, .func (PySem.W.fnOf "parse_range" "parse_range" (defArgs sPr) (defBody sPr) (defScope sPr) .none kV8 dc8 pm8 an8 cd8 ct8), sl8⟩) (c8 : PySem.W.codeIn K cd8 "parse_range" = true) (k8 : PySem.W.keepIn K (.ref f8) = true)
    (a9 : PySem.W.nsIn K mainGlobals "parse_ranges" = some (some (.ref f9))) (l9 : K.lookup f9 = some ⟨oc9, od9, .func (PySem.W.fnOf "parse_ranges" "parse_ranges" (defArgs sPs) (defBody sPs) (defScope sPs) .none kV9 dc9 pm9 an9 cd9 ct9), sl9⟩) (c9 : PySem.W.codeIn K cd9 "parse_ranges" = true) (k9 : PySem.W.keepIn K (.ref f9) = true)
    (a10 : PySem.W.nsIn K mainGlobals "parse_relation" = some (some (.ref f10))) (l10 : K.lookup f10 = some ⟨oc10, od10, .func (PySem.W.fnOf "parse_relation" "parse_relation" (defArgs sPl) (defBody sPl) (defScope sPl) .none kV10 dc10 pm10 an10 cd10 ct10), sl10⟩) (c10 : PySem.W.codeIn K cd10 "parse_relation" = true) (k10 : PySem.W.keepIn K (.ref f10) = true)
    (a11 : PySem.W.nsIn K mainGlobals "parse_condition" = some (some (.ref f11))) (l11 : K.lookup f11 = some ⟨oc11, od11, .func (PySem.W.fnOf "parse_condition" "parse_condition" (defArgs sPc) (defBody sPc) (defScope sPc) .none kV11 dc11 pm11 an11 cd11 ct11), sl11⟩) (c11 : PySem.W.codeIn K cd11 "parse_condition" = true) (k11 : PySem.W.keepIn K (.ref f11) = true)
    (a12 : PySem.W.nsIn K mainGlobals "parse_rule" = some (some (.ref f12))) (l12 : K.lookup f12 = some ⟨oc12, od12, .func (PySem.W.fnOf "parse_rule" "parse_rule" (defArgs sPu) (defBody sPu) (defScope sPu) .none kV12 dc12 pm12 an12 cd12 ct12), sl12⟩) (c12 : PySem.W.codeIn K cd12 "parse_rule" = true) (k12 : PySem.W.keepIn K (.ref f12) = true)
    (a13 : PySem.W.nsIn K mainGlobals "parse_language" = some (some (.ref f13))) (l13 : K.lookup f13 = some ⟨oc13, od13, .func (PySem.W.fnOf "parse_language" "parse_language" (defArgs sPg) (defBody sPg) (defScope sPg) .none kV13 dc13 pm13 an13 cd13 ct13), sl13⟩) (c13 : PySem.W.codeIn K cd13 "parse_language" = true) (k13 : PySem.W.keepIn K (.ref f13) = true)
    (a14 : PySem.W.nsIn K mainGlobals "_law_cell" = some (some (.ref f14))) (l14 : K.lookup f14 = some ⟨oc14, od14, .func (PySem.W.fnOf "_law_cell" "_law_cell" (defArgs sCell) (defBody sCell) (defScope sCell) .none kV14 dc14 pm14 an14 cd14 ct14), sl14⟩) (c14 : PySem.W.codeIn K cd14 "_law_cell" = true) (k14 : PySem.W.keepIn K (.ref f14) = true)
    (a15 : PySem.W.nsIn K mainGlobals "_law_digits" = some (some (.ref f15))) (l15 : K.lookup f15 = some ⟨oc15, od15, .func (PySem.W.fnOf "_law_digits" "_law_digits" (defArgs sDigits) (defBody sDigits) (defScope sDigits) .none kV15 dc15 pm15 an15 cd15 ct15), sl15⟩) (c15 : PySem.W.codeIn K cd15 "_law_digits" = true) (k15 : PySem.W.keepIn K (.ref f15) = true)
    (a16 : PySem.W.nsIn K mainGlobals "_law_draw" = some (some (.ref f16))) (l16 : K.lookup f16 = some ⟨oc16, od16, .func (PySem.W.fnOf "_law_draw" "_law_draw" (defArgs sDraw) (defBody sDraw) (defScope sDraw) .none kV16 dc16 pm16 an16 cd16 ct16), sl16⟩) (c16 : PySem.W.codeIn K cd16 "_law_draw" = true) (k16 : PySem.W.keepIn K (.ref f16) = true)
    (a17 : PySem.W.nsIn K mainGlobals "_law_relation" = some (some (.ref f17))) (l17 : K.lookup f17 = some ⟨oc17, od17, .func (PySem.W.fnOf "_law_relation" "_law_relation" (defArgs sLr) (defBody sLr) (defScope sLr) .none kV17 dc17 pm17 an17 cd17 ct17), sl17⟩) (c17 : PySem.W.codeIn K cd17 "_law_relation" = true) (k17 : PySem.W.keepIn K (.ref f17) = true)
    (a18 : PySem.W.nsIn K mainGlobals "_law_condition" = some (some (.ref f18))) (l18 : K.lookup f18 = some ⟨oc18, od18, .func (PySem.W.fnOf "_law_condition" "_law_condition" (defArgs sLn) (defBody sLn) (defScope sLn) .none kV18 dc18 pm18 an18 cd18 ct18), sl18⟩) (c18 : PySem.W.codeIn K cd18 "_law_condition" = true) (k18 : PySem.W.keepIn K (.ref f18) = true)
    (a19 : PySem.W.nsIn K mainGlobals "_law_rules" = some (some (.ref f19))) (l19 : K.lookup f19 = some ⟨oc19, od19, .func (PySem.W.fnOf "_law_rules" "_law_rules" (defArgs sLu) (defBody sLu) (defScope sLu) .none kV19 dc19 pm19 an19 cd19 ct19), sl19⟩) (c19 : PySem.W.codeIn K cd19 "_law_rules" = true) (k19 : PySem.W.keepIn K (.ref f19) = true)
    (a20 : PySem.W.nsIn K mainGlobals "_law_range" = some (some (.ref f20))) (l20 : K.lookup f20 = some ⟨oc20, od20, .func (PySem.W.fnOf "_law_range" "_law_range" (defArgs sRa) (defBody sRa) (defScope sRa) .none kV20 dc20 pm20 an20 cd20 ct20), sl20⟩) (c20 : PySem.W.codeIn K cd20 "_law_range" = true) (k20 : PySem.W.keepIn K (.ref f20) = true)
    (a21 : PySem.W.nsIn K mainGlobals "_law_line" = some (some (.ref f21))) (l21 : K.lookup f21 = some ⟨oc21, od21, .func (PySem.W.fnOf "_law_line" "_law_line" (defArgs sLw) (defBody sLw) (defScope sLw) .none kV21 dc21 pm21 an21 cd21 ct21), sl21⟩) (c21 : PySem.W.codeIn K cd21 "_law_line" = true) (k21 : PySem.W.keepIn K (.ref f21) = true)
    (a22 : PySem.W.nsIn K mainGlobals "law" = some (some (.ref f22))) (l22 : K.lookup f22 = some ⟨oc22, od22, .func (PySem.W.fnOf "law" "law" (defArgs sLaw) (defBody sLaw) (defScope sLaw) .none kV22 dc22 pm22 an22 cd22 ct22), sl22⟩) (c22 : PySem.W.codeIn K cd22 "law" = true) (k22 : PySem.W.keepIn K (.ref f22) = true)
    (aC : PySem.W.nsIn K mainGlobals "Language" = some (some (.ref C)))
    (mk1 : PySem.W.makesIn K C = true)
    (mk2 : PySem.W.findIn K (.ref C) "__init__" = some (some (.ref fI)))
    (mk3 : PySem.W.isFn K (.ref fI) = true)
    (mk4 : PySem.W.keepIn K (.ref C) = true)
    (lI : K.lookup fI = some ⟨ocI, odI, .func (PySem.W.fnOf "__init__" "Language.__init__" (defArgs sLi) (defBody sLi) (defScope sLi) .none kVI dcI pmI anI cdI ctI), slI⟩)
    (cI : PySem.W.codeIn K cdI "Language.__init__" = true)
    (kI : PySem.W.keepIn K (.ref fI) = true)
    (pg : PySem.W.plainGet K C Str.empty = true)
    (hd : PySem.W.hasDictIn K C = true)
    (po : PySem.W.plainOver K C = true)
    (sa : PySem.W.findIn K (.ref C) "__setattr__" = some (some (.builtin "object.__setattr__")))
    (nr : PySem.W.findIn K (.ref C) "rules" = some none)
    (aK : PySem.W.nsIn K mainGlobals "CATEGORIES" = some (some (.ref ca)))
    (xK : K.lookup ca = some ⟨.type "tuple", none, .seq #[.str "zero" u1, .str "one" u2, .str "two" u3, .str "few" u4, .str "many" u5] kC, sC⟩)
    (aF : PySem.W.nsIn K mainGlobals "FIGURES" = some (some (.str "0123456789" tF)))
    (q1 : PySem.W.nsIn K mainGlobals "MOST_FIGURES" = some (some (.int 4 t1)))
    (q2 : PySem.W.nsIn K mainGlobals "MOST_RANGES" = some (some (.int 8 t2)))
    (q3 : PySem.W.nsIn K mainGlobals "LEAST_MODULUS" = some (some (.int 2 t3)))
    (q4 : PySem.W.nsIn K mainGlobals "MOST_MODULUS" = some (some (.int 100 t4)))
    (z1 : PySem.W.nsIn K mainGlobals "len" = some none) (z2 : PySem.W.nsIn K mainGlobals "list" = some none) (z3 : PySem.W.nsIn K mainGlobals "range" = some none) (z4 : PySem.W.nsIn K mainGlobals "int" = some none) (z5 : PySem.W.nsIn K mainGlobals "str" = some none) (z6 : PySem.W.nsIn K mainGlobals "enumerate" = some none) (z7 : PySem.W.nsIn K mainGlobals "isinstance" = some none) :
    ∃ fd : FuncData, (∀ (s : Shared) (v : Value), BindsTo s fd ⟨[v], []⟩ [("script", v)]) ∧ ∀ base : Heap, K.In base → base.Ns mainGlobals mg → FnOk l.prog w K mg base CX0 8 fa fd ["script"] (spLaw K) := by
  have e := hfa.symm.trans (PySem.W.mg_of X G a22)
  cases e
  have F1 := fun_mk (st := sCd) l1 c1 k1
  have F2 := fun_mk (st := sFr) l2 c2 k2
  have F3 := fun_mk (st := sFl) l3 c3 k3
  have F4 := fun_mk (st := sFc) l4 c4 k4
  have F5 := fun_mk (st := sFg) l5 c5 k5
  have F6 := fun_mk (st := sPn) l6 c6 k6
  have F7 := fun_mk (st := sPm) l7 c7 k7
  have F8 := fun_mk (st := sPr) l8 c8 k8
  have F9 := fun_mk (st := sPs) l9 c9 k9
  have F10 := fun_mk (st := sPl) l10 c10 k10
  have F11 := fun_mk (st := sPc) l11 c11 k11
  have F12 := fun_mk (st := sPu) l12 c12 k12
  have F13 := fun_mk (st := sPg) l13 c13 k13
  have F14 := fun_mk (st := sCell) l14 c14 k14
  have F15 := fun_mk (st := sDigits) l15 c15 k15
  have F16 := fun_mk (st := sDraw) l16 c16 k16
  have F17 := fun_mk (st := sLr) l17 c17 k17
  have F18 := fun_mk (st := sLn) l18 c18 k18
  have F19 := fun_mk (st := sLu) l19 c19 k19
  have F20 := fun_mk (st := sRa) l20 c20 k20
  have F21 := fun_mk (st := sLw) l21 c21 k21
  have F22 := fun_mk (st := sLaw) l22 c22 k22
  have FI := fun_mk (st := sLi) lI cI kI
  have b1 := F1.binds (ps := ["condition"]) fun _ _ _ _ _ _ us hl => match us, hl with | [_], _ => rfl
  have b2 := F2.binds (ps := ["low", "high"]) fun _ _ _ _ _ _ us hl => match us, hl with | [_, _], _ => rfl
  have b3 := F3.binds (ps := ["relation"]) fun _ _ _ _ _ _ us hl => match us, hl with | [_], _ => rfl
  have b4 := F4.binds (ps := ["condition"]) fun _ _ _ _ _ _ us hl => match us, hl with | [_], _ => rfl
  have b5 := F5.binds (ps := ["language"]) fun _ _ _ _ _ _ us hl => match us, hl with | [_], _ => rfl
  have b6 := F6.binds (ps := ["figures", "line"]) fun _ _ _ _ _ _ us hl => match us, hl with | [_, _], _ => rfl
  have b7 := F7.binds (ps := ["figures", "line"]) fun _ _ _ _ _ _ us hl => match us, hl with | [_, _], _ => rfl
  have b8 := F8.binds (ps := ["text", "line"]) fun _ _ _ _ _ _ us hl => match us, hl with | [_, _], _ => rfl
  have b9 := F9.binds (ps := ["text", "line"]) fun _ _ _ _ _ _ us hl => match us, hl with | [_, _], _ => rfl
  have b10 := F10.binds (ps := ["text", "line"]) fun _ _ _ _ _ _ us hl => match us, hl with | [_, _], _ => rfl
  have b11 := F11.binds (ps := ["text", "line"]) fun _ _ _ _ _ _ us hl => match us, hl with | [_, _], _ => rfl
  have b12 := F12.binds (ps := ["text", "line", "allowed"]) fun _ _ _ _ _ _ us hl => match us, hl with | [_, _, _], _ => rfl
  have b13 := F13.binds (ps := ["text"]) fun _ _ _ _ _ _ us hl => match us, hl with | [_], _ => rfl
  have b14 := F14.binds (ps := ["script", "k"]) fun _ _ _ _ _ _ us hl => match us, hl with | [_, _], _ => rfl
  have b15 := F15.binds (ps := ["script", "first", "last"]) fun _ _ _ _ _ _ us hl => match us, hl with | [_, _, _], _ => rfl
  have b16 := F16.binds (ps := ["box", "many"]) fun _ _ _ _ _ _ us hl => match us, hl with | [_, _], _ => rfl
  have b17 := F17.binds (ps := ["box"]) fun _ _ _ _ _ _ us hl => match us, hl with | [_], _ => rfl
  have b18 := F18.binds (ps := ["box"]) fun _ _ _ _ _ _ us hl => match us, hl with | [_], _ => rfl
  have b19 := F19.binds (ps := ["box"]) fun _ _ _ _ _ _ us hl => match us, hl with | [_], _ => rfl
  have b20 := F20.binds (ps := ["pair"]) fun _ _ _ _ _ _ us hl => match us, hl with | [_], _ => rfl
  have b21 := F21.binds (ps := ["rule"]) fun _ _ _ _ _ _ us hl => match us, hl with | [_], _ => rfl
  have b22 := F22.binds (ps := ["script"]) fun _ _ _ _ _ _ us hl => match us, hl with | [_], _ => rfl
  have bI := FI.binds (ps := ["self", "rules"]) fun _ _ _ _ _ _ us hl => match us, hl with | [_, _], _ => rfl
  have g1 := PySem.W.mg_of X G a1
  have g2 := PySem.W.mg_of X G a2
  have g3 := PySem.W.mg_of X G a3
  have g4 := PySem.W.mg_of X G a4
  have g5 := PySem.W.mg_of X G a5
  have g6 := PySem.W.mg_of X G a6
  have g7 := PySem.W.mg_of X G a7
  have g8 := PySem.W.mg_of X G a8
  have g9 := PySem.W.mg_of X G a9
  have g10 := PySem.W.mg_of X G a10
  have g11 := PySem.W.mg_of X G a11
  have g12 := PySem.W.mg_of X G a12
  have g13 := PySem.W.mg_of X G a13
  have g14 := PySem.W.mg_of X G a14
  have g15 := PySem.W.mg_of X G a15
  have g16 := PySem.W.mg_of X G a16
  have g17 := PySem.W.mg_of X G a17
  have g18 := PySem.W.mg_of X G a18
  have g19 := PySem.W.mg_of X G a19
  have g20 := PySem.W.mg_of X G a20
  have g21 := PySem.W.mg_of X G a21
  have g22 := PySem.W.mg_of X G a22
  have y1 := PySem.W.mg_none_of X G z1
  have y2 := PySem.W.mg_none_of X G z2
  have y3 := PySem.W.mg_none_of X G z3
  have y4 := PySem.W.mg_none_of X G z4
  have y5 := PySem.W.mg_none_of X G z5
  have y6 := PySem.W.mg_none_of X G z6
  have y7 := PySem.W.mg_none_of X G z7
  have gC := PySem.W.mg_of X G aC
  have gFi := PySem.W.mg_of X G aF
  have gQ1 := PySem.W.mg_of X G q1
  have gQ2 := PySem.W.mg_of X G q2
  have gQ3 := PySem.W.mg_of X G q3
  have gQ4 := PySem.W.mg_of X G q4
  have Lc : LC K C := ⟨⟨pg, hd, po, sa⟩, nr⟩
  have MM : Mk K C fI := ⟨mk1, mk2, mk3, mk4⟩
  have hCat : ∀ H, Tn.NT K H ca (cats.map V.str) := fun H => ⟨.inr ⟨_, _, _, xK, rfl, rfl, by show 5 ≤ sizeLine; decide, .cons ⟨_, rfl⟩ (.cons ⟨_, rfl⟩ (.cons ⟨_, rfl⟩ (.cons ⟨_, rfl⟩ (.cons ⟨_, rfl⟩ .nil))))⟩, .inr ⟨_, xK, rfl, rfl⟩⟩
  refine ⟨PySem.W.fnOf "law" "law" (defArgs sLaw) (defBody sLaw) (defScope sLaw) .none kV22 dc22 pm22 an22 cd22 ct22, fun s v => .of_eq rfl, fun base _ _ => ?_⟩
  have gCd := ok_cd (P := l.prog) (w := w) (mg := mg) (base := base) F1 y2
  have gLi := ok_li FI Lc gCd b1 k1 g1
  have gFr := ok_fr (P := l.prog) (w := w) (mg := mg) (base := base) F2 y5
  have gFl := ok_fl F3 gFr b2 k2 g2
  have gFc := ok_fc F4 gFl b3 k3 g3
  have gFg := ok_fg F5 Lc gFc b4 k4 g4
  have gRa := ok_ra (P := l.prog) (w := w) (mg := mg) (base := base) F20 y5
  have gLw := ok_lw F21 gRa b20 k20 g20 y5
  have gPn := ok_pn (P := l.prog) (w := w) (mg := mg) (base := base) F6 gFi gQ1 y1 y4
  have gPm := ok_pm F7 gPn b6 k6 g6 gQ3 gQ4
  have gPr := ok_pr F8 gPn b6 k6 g6
  have gPs := ok_ps F9 gPr b8 k8 g8 gQ2 y1
  have gPl := ok_pl F10 gPs b9 k9 g9 gPm b7 k7 g7
  have gPc := ok_pc F11 gPl b10 k10 g10
  have gPu := ok_pu F12 gPc b11 k11 g11
  have gPg := ok_pg F13 gPu b12 k12 g12 MM gC gLi bI (PySem.W.mg_of X G aK) hCat y6
  have gCe := ok_cell (P := l.prog) (w := w) (mg := mg) (base := base) F14 y1
  have gDg := ok_digits F15 gCe b14 k14 g14 y3 y4
  have gDr := ok_draw (P := l.prog) (w := w) (mg := mg) (base := base) F16 y1 y4
  have gLr := ok_lr F17 gDr b16 k16 g16 y3 y4
  have gLn := ok_ln F18 gDr b16 k16 g16 gLr b17 k17 g17 y3
  have gLu := ok_lu F19 gDr b16 k16 g16 gLn b18 k18 g18
  exact ok_law F22 Lc gDg b15 k15 g15 gLu b19 k19 g19 gLw b21 k21 g21 MM gC gLi bI gFg b5 k5 g5 gPg b13 k13 g13 y7 y2
theorem walk {l : PySem.W.OpenLaw} {q : Program} {loose : List Str} {XP : (Str → Option Value) → Heap → Prop} {YP : World → Heap → Prop} {d : DefRec} {K : Params → PySem.W.Frag} (hn : l.most = some 63) (hdf : d.params.defaults = [])
    (hY : ∀ (w : World) (h : Heap), YP w h → (K w.params).In h)
    (F : ∀ (w : World) (mg : Str → Option Value) (fa : Addr) (h : Heap), (K w.params).In h → h.Ns mainGlobals mg → mg d.name = some (.ref fa) →
      ∃ fd : FuncData, (∀ (s : Shared) (u : Value), BindsTo s fd ⟨[u], []⟩ [("script", u)]) ∧ ∀ base : Heap, (K w.params).In base → base.Ns mainGlobals mg → FnOk l.prog w (K w.params) mg base CX0 8 fa fd ["script"] (spLaw (K w.params))) :
    PySem.W.WalkO q loose XP YP l.row.toRowW d [] (fun f vs => PySem.call f vs) :=
  L2.walk_of (n := 63) (k := 8) (x := "script") (CX := fun _ => CX0) (sp := fun w => spLaw (K w.params)) hn (by decide) hdf ⟨rfl, by decide, by decide⟩ hY F (fun _ _ a ns _ _ hS => ⟨a, ns, rfl, hS, fun _ => rfl⟩) fun _ _ _ _ _ z => z
end Mw
open PySem PySem.W PyProof.Rows
set_option maxRecDepth 100000 in
set_option maxHeartbeats 0 in
theorem PySem.Challenge.cw_messageways_k05_texts_of_languages_holds : PySem.Challenge.rw_messageways_k05_texts_of_languages.Holds := by
  w_on; o_law; k_head; (case hw => w_witness2)
  k_fill
  refine Mw.walk (l := PySem.Challenge.rw_messageways_k05_texts_of_languages) rfl rfl (fun w h Y => PySem.W.kIn_of Y) ?F
  case F =>
    intro w mg fa h KX G hmg
    refine' Mw.all_mk KX G hmg ?a1 ?l1 ?c1 ?k1 ?a2 ?l2 ?c2 ?k2 ?a3 ?l3 ?c3 ?k3 ?a4 ?l4 ?c4 ?k4 ?a5 ?l5 ?c5 ?k5 ?a6 ?l6 ?c6 ?k6 ?a7 ?l7 ?c7 ?k7 ?a8 ?l8 ?c8 ?k8 ?a9 ?l9 ?c9 ?k9 ?a10 ?l10 ?c10 ?k10 ?a11 ?l11 ?c11 ?k11 ?a12 ?l12 ?c12 ?k12 ?a13 ?l13 ?c13 ?k13 ?a14 ?l14 ?c14 ?k14 ?a15 ?l15 ?c15 ?k15 ?a16 ?l16 ?c16 ?k16 ?a17 ?l17 ?c17 ?k17 ?a18 ?l18 ?c18 ?k18 ?a19 ?l19 ?c19 ?k19 ?a20 ?l20 ?c20 ?k20 ?a21 ?l21 ?c21 ?k21 ?a22 ?l22 ?c22 ?k22 ?aC ?mk1 ?mk2 ?mk3 ?mk4 ?lI ?cI ?kI ?pg ?hd ?po ?sa ?nr ?aK ?xK ?aF ?q1 ?q2 ?q3 ?q4 ?z1 ?z2 ?z3 ?z4 ?z5 ?z6 ?z7
    (case a1 => k_is); (case l1 => k_is); (case c1 => k_is); (case k1 => k_is)
    (case a2 => k_is); (case l2 => k_is); (case c2 => k_is); (case k2 => k_is)
    (case a3 => k_is); (case l3 => k_is); (case c3 => k_is); (case k3 => k_is)
    (case a4 => k_is); (case l4 => k_is); (case c4 => k_is); (case k4 => k_is)
    (case a5 => k_is); (case l5 => k_is); (case c5 => k_is); (case k5 => k_is)
    (case a6 => k_is); (case l6 => k_is); (case c6 => k_is); (case k6 => k_is)
    (case a7 => k_is); (case l7 => k_is); (case c7 => k_is); (case k7 => k_is)
    (case a8 => k_is); (case l8 => k_is); (case c8 => k_is); (case k8 => k_is)
    (case a9 => k_is); (case l9 => k_is); (case c9 => k_is); (case k9 => k_is)
    (case a10 => k_is); (case l10 => k_is); (case c10 => k_is); (case k10 => k_is)
    (case a11 => k_is); (case l11 => k_is); (case c11 => k_is); (case k11 => k_is)
    (case a12 => k_is); (case l12 => k_is); (case c12 => k_is); (case k12 => k_is)
    (case a13 => k_is); (case l13 => k_is); (case c13 => k_is); (case k13 => k_is)
    (case a14 => k_is); (case l14 => k_is); (case c14 => k_is); (case k14 => k_is)
    (case a15 => k_is); (case l15 => k_is); (case c15 => k_is); (case k15 => k_is)
    (case a16 => k_is); (case l16 => k_is); (case c16 => k_is); (case k16 => k_is)
    (case a17 => k_is); (case l17 => k_is); (case c17 => k_is); (case k17 => k_is)
    (case a18 => k_is); (case l18 => k_is); (case c18 => k_is); (case k18 => k_is)
    (case a19 => k_is); (case l19 => k_is); (case c19 => k_is); (case k19 => k_is)
    (case a20 => k_is); (case l20 => k_is); (case c20 => k_is); (case k20 => k_is)
    (case a21 => k_is); (case l21 => k_is); (case c21 => k_is); (case k21 => k_is)
    (case a22 => k_is); (case l22 => k_is); (case c22 => k_is); (case k22 => k_is)
    (case aC => k_is)
    (case mk1 => k_is)
    (case mk2 => k_is)
    (case mk3 => k_is)
    (case mk4 => k_is)
    (case lI => k_is)
    (case cI => k_is)
    (case kI => k_is)
    (case pg => k_is)
    (case hd => k_is)
    (case po => k_is)
    (case sa => k_is)
    (case nr => k_is)
    (case aK => k_is)
    (case xK => k_is)
    (case aF => k_is)
    (case q1 => k_is)
    (case q2 => k_is)
    (case q3 => k_is)
    (case q4 => k_is)
    (case z1 => k_is)
    (case z2 => k_is)
    (case z3 => k_is)
    (case z4 => k_is)
    (case z5 => k_is)
    (case z6 => k_is)
    (case z7 => k_is)

