import PyProof.Rows.All
import Wide.All
import OpenK.AllK
import Wide.FinOn
import HandS.Base
import HandS.Call
import HandS.List
import HandS.Comp
import HandS.Ends
import HandS.Dict
import HandS.Iter
import HandS.Text
import HandS.Words
import HandS.WordsList
import HandS.Evl
import HandS.Style
import HandS.Walk
import HandS.Zip
import HandS.WordsDict
import HandS.DictComp
import HandS.More
import KE.KExcSuper
import HandS.Exc
import HandS.ExcInit
import HandS.Nested
import HandS.FStr
import HandS.WordsExc
import HandS.ExcIs
import HandS.ExcField
import KE.KExcIs
import HandS.ListItems
import PySem.Challenge.RW_messageways_k01_kinds_of_names
set_option Elab.async false
set_option maxRecDepth 100000
namespace Mw
open PySem L2
def top (i : Nat) : Stmt := PySem.Challenge.pw_messageways_k01_kinds_of_names.main.body.getD i (.Pass ⟨0, 0, 0, 0⟩)
/-! ### trees of messages: a message is a chain of nodes, the cases of a choice a chain of cas -/
inductive T where
  | nil
  | text (s : Str) (r : T)
  | shw (n : Str) (r : T)
  | num (r : T)
  | cho (hd : List V) (cs o r : T)
  | cas (k : V) (m r : T)
/-- the values vs are the nodes (the cases) of the tree, as the heap has them -/
def Nodes (H : Hp) : T → List V → Prop
  | .nil, vs => vs = []
  | .text s r, vs => ∃ p ws, vs = .ref p :: ws ∧ H p = some (.tup [.str "text", .str s]) ∧ Nodes H r ws
  | .shw n r, vs => ∃ p ws, vs = .ref p :: ws ∧ H p = some (.tup [.str "show", .str n]) ∧ Nodes H r ws
  | .num r, vs => ∃ p ws, vs = .ref p :: ws ∧ H p = some (.tup [.str "number"]) ∧ Nodes H r ws
  | .cho hd cs o r, vs => ∃ p ws ca cvs oa ovs, vs = .ref p :: ws ∧ H p = some (.tup (hd ++ [.ref ca, .ref oa])) ∧ H ca = some (.lst cvs) ∧ Nodes H cs cvs ∧ H oa = some (.lst ovs) ∧ Nodes H o ovs ∧ Nodes H r ws
  | .cas k m r, vs => ∃ p ws ma mvs, vs = .ref p :: ws ∧ H p = some (.tup [k, .ref ma]) ∧ H ma = some (.lst mvs) ∧ Nodes H m mvs ∧ Nodes H r ws
/-- a list at a that is a message -/
def At (H : Hp) (a : Addr) (t : T) : Prop := ∃ vs, H a = some (.lst vs) ∧ Nodes H t vs
/-- all but the box stays; the box is a list of a ref and an int -/
def IsBox (vs : List V) : Prop := ∃ d i, vs = [.ref d, .int i]
def Ext (B : Addr) (H H' : Hp) : Prop := ∀ b o, b ≠ B → H b = some o → H' b = some o
theorem Ext.refl {B : Addr} (H : Hp) : Ext B H H := fun _ _ _ h => h
theorem Ext.trans {B : Addr} {H H1 H2 : Hp} (a : Ext B H H1) (b : Ext B H1 H2) : Ext B H H2 := fun c o n h => b c o n (a c o n h)
theorem Ext.of {B : Addr} {H H' : Hp} (s : Same H H') : Ext B H H' := fun b o _ h => s b o h
theorem same_new {H : Hp} {p : Addr} (h : H p = none) (o : HO) : Same H (upd H p o) := fun b u q => by
  rw [upd_ne (ne_of_none q h)]
  exact q
theorem same_mut {H H' : Hp} {p : Addr} (s : Same H H') (h : H p = none) (o : HO) : Same H (upd H' p o) := fun b u q => by
  rw [upd_ne (ne_of_none q h)]
  exact s b u q
theorem Nodes.refs {H : Hp} : ∀ {t : T} {vs : List V}, Nodes H t vs → ∀ v ∈ vs, ∃ a, v = .ref a
  | .nil, _, h, v, hv => by
    have h' : _ = [] := h
    subst h'
    cases hv
  | .text s r, _, h, v, hv => by
    obtain ⟨p, ws, rfl, _, hr⟩ := h
    rcases List.mem_cons.mp hv with rfl | hv
    · exact ⟨_, rfl⟩
    · exact Nodes.refs hr v hv
  | .shw n r, _, h, v, hv => by
    obtain ⟨p, ws, rfl, _, hr⟩ := h
    rcases List.mem_cons.mp hv with rfl | hv
    · exact ⟨_, rfl⟩
    · exact Nodes.refs hr v hv
  | .num r, _, h, v, hv => by
    obtain ⟨p, ws, rfl, _, hr⟩ := h
    rcases List.mem_cons.mp hv with rfl | hv
    · exact ⟨_, rfl⟩
    · exact Nodes.refs hr v hv
  | .cho hd cs o r, _, h, v, hv => by
    obtain ⟨p, ws, ca, cvs, oa, ovs, rfl, _, _, _, _, _, hr⟩ := h
    rcases List.mem_cons.mp hv with rfl | hv
    · exact ⟨_, rfl⟩
    · exact Nodes.refs hr v hv
  | .cas k m r, _, h, v, hv => by
    obtain ⟨p, ws, ma, mvs, rfl, _, _, _, hr⟩ := h
    rcases List.mem_cons.mp hv with rfl | hv
    · exact ⟨_, rfl⟩
    · exact Nodes.refs hr v hv
theorem Nodes.notBox {H : Hp} {t : T} {vs : List V} (h : Nodes H t vs) : ¬ IsBox vs := by
  rintro ⟨d, i, rfl⟩
  obtain ⟨a, e⟩ := h.refs (.int i) (by simp)
  cases e
theorem lst_ne {B a : Addr} {H : Hp} {bs vs : List V} (hb : H B = some (.lst bs)) (ib : IsBox bs) (ha : H a = some (.lst vs)) (nv : ¬ IsBox vs) : a ≠ B := by
  intro e
  subst e
  rw [hb] at ha
  cases ha
  exact nv ib
theorem tup_ne {B a : Addr} {H : Hp} {bs vs : List V} (hb : H B = some (.lst bs)) (ha : H a = some (.tup vs)) : a ≠ B := by
  intro e
  subst e
  rw [hb] at ha
  cases ha
/-- a tree stays where all but the box stays -/
theorem Nodes.ext {B : Addr} {H H' : Hp} {bs : List V} (hb : H B = some (.lst bs)) (ib : IsBox bs) (e : Ext B H H') : ∀ {t : T} {vs : List V}, Nodes H t vs → Nodes H' t vs
  | .nil, _, h => h
  | .text s r, _, h => by
    obtain ⟨p, ws, rfl, hp, hr⟩ := h
    exact ⟨p, ws, rfl, e _ _ (tup_ne hb hp) hp, Nodes.ext hb ib e hr⟩
  | .shw n r, _, h => by
    obtain ⟨p, ws, rfl, hp, hr⟩ := h
    exact ⟨p, ws, rfl, e _ _ (tup_ne hb hp) hp, Nodes.ext hb ib e hr⟩
  | .num r, _, h => by
    obtain ⟨p, ws, rfl, hp, hr⟩ := h
    exact ⟨p, ws, rfl, e _ _ (tup_ne hb hp) hp, Nodes.ext hb ib e hr⟩
  | .cho hd cs o r, _, h => by
    obtain ⟨p, ws, ca, cvs, oa, ovs, rfl, hp, hc, hcs, ho, hos, hr⟩ := h
    exact ⟨p, ws, ca, cvs, oa, ovs, rfl, e _ _ (tup_ne hb hp) hp, e _ _ (lst_ne hb ib hc hcs.notBox) hc, Nodes.ext hb ib e hcs, e _ _ (lst_ne hb ib ho hos.notBox) ho, Nodes.ext hb ib e hos, Nodes.ext hb ib e hr⟩
  | .cas k m r, _, h => by
    obtain ⟨p, ws, ma, mvs, rfl, hp, hm, hms, hr⟩ := h
    exact ⟨p, ws, ma, mvs, rfl, e _ _ (tup_ne hb hp) hp, e _ _ (lst_ne hb ib hm hms.notBox) hm, Nodes.ext hb ib e hms, Nodes.ext hb ib e hr⟩
theorem Nodes.same {H H' : Hp} (e : Same H H') : ∀ {t : T} {vs : List V}, Nodes H t vs → Nodes H' t vs
  | .nil, _, h => h
  | .text s r, _, h => by
    obtain ⟨p, ws, rfl, hp, hr⟩ := h
    exact ⟨p, ws, rfl, e _ _ hp, Nodes.same e hr⟩
  | .shw n r, _, h => by
    obtain ⟨p, ws, rfl, hp, hr⟩ := h
    exact ⟨p, ws, rfl, e _ _ hp, Nodes.same e hr⟩
  | .num r, _, h => by
    obtain ⟨p, ws, rfl, hp, hr⟩ := h
    exact ⟨p, ws, rfl, e _ _ hp, Nodes.same e hr⟩
  | .cho hd cs o r, _, h => by
    obtain ⟨p, ws, ca, cvs, oa, ovs, rfl, hp, hc, hcs, ho, hos, hr⟩ := h
    exact ⟨p, ws, ca, cvs, oa, ovs, rfl, e _ _ hp, e _ _ hc, Nodes.same e hcs, e _ _ ho, Nodes.same e hos, Nodes.same e hr⟩
  | .cas k m r, _, h => by
    obtain ⟨p, ws, ma, mvs, rfl, hp, hm, hms, hr⟩ := h
    exact ⟨p, ws, ma, mvs, rfl, e _ _ hp, e _ _ hm, Nodes.same e hms, Nodes.same e hr⟩
/-- two chains, one behind the other -/
def T.app : T → T → T
  | .nil, u => u
  | .text s r, u => .text s (r.app u)
  | .shw n r, u => .shw n (r.app u)
  | .num r, u => .num (r.app u)
  | .cho hd cs o r, u => .cho hd cs o (r.app u)
  | .cas k m r, u => .cas k m (r.app u)
theorem Nodes.app {H : Hp} {u : T} {us : List V} (hu : Nodes H u us) : ∀ {t : T} {vs : List V}, Nodes H t vs → Nodes H (t.app u) (vs ++ us)
  | .nil, _, h => by
    have h' : _ = [] := h
    subst h'
    exact hu
  | .text s r, _, h => by
    obtain ⟨p, ws, rfl, hp, hr⟩ := h
    exact ⟨p, ws ++ us, rfl, hp, Nodes.app hu hr⟩
  | .shw n r, _, h => by
    obtain ⟨p, ws, rfl, hp, hr⟩ := h
    exact ⟨p, ws ++ us, rfl, hp, Nodes.app hu hr⟩
  | .num r, _, h => by
    obtain ⟨p, ws, rfl, hp, hr⟩ := h
    exact ⟨p, ws ++ us, rfl, hp, Nodes.app hu hr⟩
  | .cho hd cs o r, _, h => by
    obtain ⟨p, ws, ca, cvs, oa, ovs, rfl, hp, hc, hcs, ho, hos, hr⟩ := h
    exact ⟨p, ws ++ us, ca, cvs, oa, ovs, rfl, hp, hc, hcs, ho, hos, Nodes.app hu hr⟩
  | .cas k m r, _, h => by
    obtain ⟨p, ws, ma, mvs, rfl, hp, hm, hms, hr⟩ := h
    exact ⟨p, ws ++ us, ma, mvs, rfl, hp, hm, hms, Nodes.app hu hr⟩
section
variable {P : Program} {w : World} {K : PySem.W.Frag} {mg : Str → Option Value} {base : Heap}
/-! ### _law_cell -/
abbrev sCell : Stmt := top 12
theorem scCell : FnScope ["script", "k"] ["script", "k"] (defScope sCell) := ⟨rfl, rfl, rfl, by decide +kernel, rfl, by decide +kernel, by decide +kernel⟩
def spCell (K : PySem.W.Frag) : Sp := fun vs H Q _ => ∃ (a : Addr) (ns : List Int) (k : Int), vs = [.ref a, .int k] ∧ SqL K H a (ns.map V.int) ∧ 0 ≤ k ∧ ∀ z, Q (.int z) H
theorem ok_cell {f : Addr} {fd : FuncData} (F : Fun K "_law_cell" "_law_cell" sCell f fd) (ml : mg "len" = none) : FnOk P w K mg base CX0 1 f fd ["script", "k"] (spCell K) := by
  refine F.ok scCell (fun vs H Q E h => ?_) (fun cdv A outer s H vs Q E hr h => ?_)
  · obtain ⟨a, ns, k, rfl, _⟩ := h
    rfl
  obtain ⟨a, ns, k, rfl, hS, h0, q⟩ := h
  refine ⟨_, pss_cons (ps_if (pt_cmpR op_lt (pv 1) (pe_callB call_len_seq (by rfl) ml PySem.boot_len (pa_cons (pv 0) pa_nil)) (nomark _)) (pss_one (ps_ret (pe_ix ix_list (pv 0) (pv 1) (fun _ _ => rfl)))) pss_nil)
    (pss_one (ps_ret pe_int)), ?_⟩
  refine ⟨_, rfl, _, rfl, a, _, rfl, .inl hS, _, _, rfl, rfl, _, rfl, ?_⟩
  refine ite2 (fun c => ?_) (fun c => ?_)
  · have c' := of_decide_eq_true c
    rw [List.length_map] at c'
    have hk : k.toNat < ns.length := by omega
    refine ⟨_, rfl, _, rfl, a, _, k, .int ns[k.toNat], rfl, rfl, hS, at_of (j := k.toNat) (by omega) (by rw [List.getElem?_map, List.getElem?_eq_getElem hk] <;> rfl), q _⟩
  · exact q _
end
end Mw

namespace Mw
open PySem L2
section
variable {P : Program} {w : World} {K : PySem.W.Frag} {mg : Str → Option Value} {base : Heap}
/-! ### _law_digits: a new list of ints -/
abbrev sDigits : Stmt := top 13
theorem scDigits : FnScope ["script", "first", "last", "digits", "k", "cell", "turn", "seed"] ["script", "first", "last"] (defScope sDigits) := ⟨rfl, rfl, rfl, by decide +kernel, rfl, by decide +kernel, by decide +kernel⟩
def spDigits (K : PySem.W.Frag) : Sp := fun vs H Q _ => ∃ (a : Addr) (ns : List Int), vs = [.ref a, .int 0, .int 63] ∧ SqL K H a (ns.map V.int) ∧ ∀ (d : Addr) (H' : Hp) (ds : List Int), H d = none → Same H H' → H' d = some (.lst (ds.map V.int)) → Q (.ref d) H'
theorem len_ints (ds : List Int) (z : Int) : ds.map V.int ++ [V.int z] = (ds ++ [z]).map V.int := by simp
theorem ok_digits {f fC : Addr} {fd fdC : FuncData} (F : Fun K "_law_digits" "_law_digits" sDigits f fd) (GC : FnOk P w K mg base CX0 1 fC fdC ["script", "k"] (spCell K)) (bC : Binds K fdC ["script", "k"] []) (kC : PySem.W.keepIn K (.ref fC) = true) (mC : mg "_law_cell" = some (.ref fC)) (mr : mg "range" = none) (mi : mg "int" = none) :
    FnOk P w K mg base CX0 2 f fd ["script", "first", "last"] (spDigits K) := by
  refine F.ok scDigits (fun vs H Q E h => ?_) (fun cdv A outer s H vs Q E hr h => ?_)
  · obtain ⟨a, ns, rfl, _⟩ := h
    rfl
  obtain ⟨a, ns, rfl, hS, q⟩ := h
  have nd := scDigits.nd
  refine ⟨_, pss_cons (ps_set (i := 3) nd rfl (.inl rfl) (pe_lst pa_nil))
    (pss_cons (ps_for PassesOwn.never rfl (pi_range2 rfl mr (pa_cons (pv 1) (pa_cons (pv 2) pa_nil))) (pg_name (i := 4) nd rfl (.inl rfl))
      (pss_cons (ps_set (i := 5) nd rfl (.inl rfl) (pe_call GC hr rfl mC kC bC .nil pass0 (pa_cons (pv 0) (pa_cons (pv 4) pa_nil))))
      (Evl.pss_cut (ps_if (pt_cmpR op_lt (pv 5) pe_int (nomark _)) (pss_one (ps_set (i := 5) nd rfl (.inl rfl) (pe_op op_sub pe_int (pe_op op_mul pe_int (pv 5))))) pss_nil)
      (pss_one (ps_if (pt_cmpR op_ge (pv 5) (pe_op op_pow pe_int pe_int) (nomark _))
        (pss_one (ps_for PassesOwn.never rfl (pi_range1 rfl mr (pa_cons pe_int pa_nil)) (pg_name (i := 6) nd rfl (.inl rfl))
          (pss_one (ps_if (pt_cmpR op_gt (pv 5) pe_int (nomark _))
            (pss_cons (ps_expr (pe_bm PySem.F.plainAttrs_list PySem.F.slot_list_append PySem.F.type_list_append mt_append (pv 3) (pa_cons (pe_op op_mod (pe_callTy call_int1 (by rfl) mi (by decide +kernel) (pa_cons (pv 5) pa_nil)) pe_int) pa_nil)))
            (pss_one (ps_set (i := 5) nd rfl (.inl rfl) (pe_op op_fdiv (pv 5) pe_int)))) pss_nil))))
        (pss_cons (ps_set (i := 7) nd rfl (.inl rfl) (pe_op op_mod (pe_callTy call_int1 (by rfl) mi (by decide +kernel) (pa_cons (pe_op op_add (pe_op op_add (pe_op op_mul (pv 5) pe_int) (pe_op op_mul (pv 4) pe_int)) pe_int) pa_nil)) pe_int))
        (pss_one (ps_for PassesOwn.never rfl (pi_range1 rfl mr (pa_cons pe_int pa_nil)) (pg_name (i := 6) nd rfl (.inl rfl))
          (pss_cons (ps_set (i := 7) nd rfl (.inl rfl) (pe_op op_mod (pe_callTy call_int1 (by rfl) mi (by decide +kernel) (pa_cons (pe_op op_add (pe_op op_add (pe_op op_mul (pv 7) pe_int) (pe_op op_mul pe_int (pv 6))) pe_int) pa_nil)) pe_int))
          (pss_one (ps_expr (pe_bm PySem.F.plainAttrs_list PySem.F.slot_list_append PySem.F.type_list_append mt_append (pv 3) (pa_cons (pe_op op_mod (pe_callTy call_int1 (by rfl) mi (by decide +kernel) (pa_cons (pe_op op_fdiv (pv 7) pe_int) pa_nil)) pe_int) pa_nil)))))))))))))
    (pss_one (ps_ret (pv 3)))), ?_⟩
  refine ⟨Nat.zero_le _, fun d nd0 => ?_⟩
  have s1 : Same H (upd H d (.lst [])) := same_new nd0 _
  refine ⟨_, rfl, _, rfl, 0, 63, rfl, by decide, for_range (lo := 0) (n := (63 - 0 : Int).toNat) (fun i σ H' => ∃ (ds : List Int) (o4 o5 o6 o7 : Option V), σ = [some (.ref a), some (.int 0), some (.int 63), some (.ref d), o4, o5, o6, o7] ∧ Same H H' ∧ H' d = some (.lst (ds.map V.int)) ∧ ds.length ≤ 60 * i)
    ⟨[], none, none, none, none, rfl, s1, upd_same, Nat.le_refl _⟩ ?_ ?_⟩
  · rintro i σ H2 hi ⟨ds, o4, o5, o6, o7, rfl, s2, hd, hl⟩
    refine ⟨_, rfl, _, rfl, a, ns, _, rfl, s2.seq hS, by omega, fun z => ?_⟩
    refine ⟨fun σ' H' => ∃ z' : Int, σ' = [some (.ref a), some (.int 0), some (.int 63), some (.ref d), some (.int (0 + i)), some (.int z'), o6, o7] ∧ H' = H2, ?_, ?_⟩
    · refine ⟨_, rfl, _, _, rfl, rfl, _, rfl, ?_⟩
      refine ite2 (fun _ => ?_) (fun _ => ?_)
      · exact ⟨_, rfl, _, _, rfl, rfl, .inl (by decide), _, _, rfl, rfl, _, rfl, rfl⟩
      · exact ⟨_, rfl, rfl⟩
    · rintro σ' H' ⟨z', rfl, rfl⟩
      refine ⟨_, rfl, _, _, rfl, rfl, (by unfold CPow; decide), _, _, rfl, rfl, _, rfl, ?_⟩
      refine ite2 (fun _ => ?_) (fun _ => ?_)
      · refine ⟨60, rfl, by decide, by decide, for_range (lo := 0) (n := 60) (fun j σ H' => ∃ (ds' : List Int) (z' : Int) (o6 : Option V), σ = [some (.ref a), some (.int 0), some (.int 63), some (.ref d), some (.int (0 + i)), some (.int z'), o6, o7] ∧ Same H H' ∧ H' d = some (.lst (ds'.map V.int)) ∧ ds'.length ≤ 60 * i + j)
          ⟨ds, z', o6, rfl, s2, hd, hl⟩ ?_ ?_⟩
        · rintro j σ H3 hj ⟨ds', z'', o6, rfl, s3, hd3, hl3⟩
          refine ⟨_, rfl, _, _, rfl, rfl, _, rfl, ?_⟩
          refine ite2 (fun _ => ?_) (fun _ => ?_)
          · refine ⟨_, rfl, .inl ⟨rfl, _, SqL.of hd3⟩, _, rfl, .inl ⟨_, rfl, _, _, rfl, rfl, (by show (0 : Int) < 1000; decide), d, _, _, rfl, rfl, hd3, ?_, ?_⟩⟩
            · rw [List.length_map]
              exact Nat.lt_of_lt_of_le (show ds'.length < 100000 by omega) (by decide)
            · refine ⟨_, rfl, _, _, rfl, rfl, ⟨by decide, by decide⟩, ds' ++ [z'' % 1000], _, _, rfl, same_mut s3 nd0 _, ?_, ?_⟩
              · rw [upd_same, len_ints]
              · rw [List.length_append, List.length_singleton]
                omega
          · exact ⟨ds', _, _, rfl, s3, hd3, by omega⟩
        · rintro σ H3 ⟨ds', z'', o6, rfl, s3, hd3, hl3⟩
          exact ⟨ds', _, _, _, _, rfl, s3, hd3, by omega⟩
      · refine ⟨_, rfl, _, _, rfl, rfl, .inr (by decide), _, rfl, _, _, rfl, rfl, .inr (by decide), _, _, rfl, rfl, _, _, rfl, rfl, .inl ⟨_, rfl, _, _, rfl, rfl, (by show (0 : Int) < 2147483647; decide), ?_⟩⟩
        refine ⟨12, rfl, by decide, by decide, for_range (lo := 0) (n := 12) (fun j σ H' => ∃ (ds' : List Int) (z7 : Int) (o6 : Option V), σ = [some (.ref a), some (.int 0), some (.int 63), some (.ref d), some (.int (0 + i)), some (.int z'), o6, some (.int z7)] ∧ Same H H' ∧ H' d = some (.lst (ds'.map V.int)) ∧ ds'.length ≤ 60 * i + j)
          ⟨ds, _, o6, rfl, s2, hd, hl⟩ ?_ ?_⟩
        · rintro j σ H3 hj ⟨ds', z7, o6, rfl, s3, hd3, hl3⟩
          refine ⟨_, rfl, _, _, rfl, rfl, .inr (by decide), _, rfl, _, _, rfl, rfl, .inl (by decide), _, _, rfl, rfl, _, _, rfl, rfl, .inl ⟨_, rfl, _, _, rfl, rfl, (by show (0 : Int) < 2147483647; decide), ?_⟩⟩
          refine ⟨_, rfl, .inl ⟨rfl, _, SqL.of hd3⟩, _, rfl, _, _, rfl, rfl, ⟨by decide, by decide⟩, .inl ⟨_, rfl, _, _, rfl, rfl, (by show (0 : Int) < 1000; decide), d, _, _, rfl, rfl, hd3, ?_, ?_⟩⟩
          · rw [List.length_map]
            exact Nat.lt_of_lt_of_le (show ds'.length < 100000 by omega) (by decide)
          · refine ⟨ds' ++ [((z7 * 16807 + 7 * (0 + (j : Int)) + 1) % 2147483647 / 997) % 1000], _, _, rfl, same_mut s3 nd0 _, ?_, ?_⟩
            · rw [upd_same, len_ints]
            · rw [List.length_append, List.length_singleton]
              omega
        · rintro σ H3 ⟨ds', z7, o6, rfl, s3, hd3, hl3⟩
          exact ⟨ds', _, _, _, _, rfl, s3, hd3, by omega⟩
  · rintro σ H2 ⟨ds, o4, o5, o6, o7, rfl, s2, hd, hl⟩
    exact ⟨_, rfl, q d H2 ds nd0 s2 hd⟩
end
end Mw

namespace Mw
open PySem L2
/-! ### how a heap goes on: all but the box stays, nothing is given up -/
structure Go (B : Addr) (H H' : Hp) : Prop where
  ext : ∀ b o, b ≠ B → H b = some o → H' b = some o
  dom : ∀ b, H' b = none → H b = none
theorem Go.refl (B : Addr) (H : Hp) : Go B H H := ⟨fun _ _ _ h => h, fun _ h => h⟩
theorem Go.trans {B : Addr} {H H1 H2 : Hp} (a : Go B H H1) (b : Go B H1 H2) : Go B H H2 := ⟨fun c o n h => b.ext c o n (a.ext c o n h), fun c h => a.dom c (b.dom c h)⟩
theorem upd_none {H : Hp} {p b : Addr} {o : HO} (h : upd H p o b = none) : H b = none := by
  unfold upd at h
  split at h
  · cases h
  · exact h
theorem Go.new {B : Addr} {H : Hp} {p : Addr} (h : H p = none) (o : HO) : Go B H (upd H p o) := ⟨fun b u _ q => same_new h o b u q, fun b q => upd_none q⟩
theorem Go.mut {B : Addr} {H H' : Hp} {p : Addr} (g : Go B H H') (h : H p = none) (o : HO) : Go B H (upd H' p o) :=
  ⟨fun b u n q => by
    rw [upd_ne (ne_of_none q h)]
    exact g.ext b u n q, fun b q => g.dom b (upd_none q)⟩
theorem Go.box (B : Addr) (H : Hp) (o : HO) : Go B H (upd H B o) := ⟨fun b u n q => by rw [upd_ne n]; exact q, fun b q => upd_none q⟩
theorem Go.same {B : Addr} {H H' : Hp} (s : Same H H') : Go B H H' := ⟨fun b o _ h => s b o h, fun b h => s.free h⟩
/-- what is new in H, seen from H0 -/
def fr (H0 H : Hp) : Hp := fun a => match H0 a with
  | none => H a
  | some _ => none
theorem fr_new {H0 H : Hp} {a : Addr} (h : H0 a = none) : fr H0 H a = H a := by
  unfold fr
  rw [h]
theorem fr_old {H0 H : Hp} {a : Addr} {o : HO} (h : H0 a = some o) : fr H0 H a = none := by
  unfold fr
  rw [h]
theorem fr_in {H0 H : Hp} {a : Addr} {o : HO} (h : fr H0 H a = some o) : H0 a = none ∧ H a = some o := by
  unfold fr at h
  split at h
  · exact ⟨by assumption, h⟩
  · cases h
theorem fr_go {B : Addr} {H0 H1 H2 : Hp} {ob : HO} (hb : H0 B = some ob) (g : Go B H1 H2) : Same (fr H0 H1) (fr H0 H2) := fun a o h => by
  obtain ⟨h0, h1⟩ := fr_in h
  rw [fr_new h0]
  exact g.ext a o (by rintro rfl; rw [hb] at h0; cases h0) h1
theorem fr_same {H0 H1 H2 : Hp} (g : Same H1 H2) : Same (fr H0 H1) (fr H0 H2) := fun a o h => by
  obtain ⟨h0, h1⟩ := fr_in h
  rw [fr_new h0]
  exact g a o h1
theorem fr_mut {H0 H1 : Hp} {l : Addr} {ol : HO} (hl : H0 l = some ol) (o : HO) : Same (fr H0 H1) (fr H0 (upd H1 l o)) := fun a u h => by
  obtain ⟨h0, h1⟩ := fr_in h
  rw [fr_new h0, upd_ne (by rintro rfl; rw [hl] at h0; cases h0)]
  exact h1
theorem fr_dom {H0 H1 H2 : Hp} (g : ∀ b, H1 b = none → H0 b = none) : Same (fr H1 H2) (fr H0 H2) := fun a u h => by
  obtain ⟨h0, h1⟩ := fr_in h
  rw [fr_new (g a h0)]
  exact h1
theorem fr_out {H0 H : Hp} : Same (fr H0 H) H := fun a o h => (fr_in h).2
/-- the box: digits and a place -/
def Box (H : Hp) (B d : Addr) : Prop := ∃ (ds : List Int) (i : Int), H B = some (.lst [.ref d, .int i]) ∧ H d = some (.lst (ds.map V.int)) ∧ 0 ≤ i
theorem Box.isB {H : Hp} {B d : Addr} (b : Box H B d) : ∃ o, H B = some o := by
  obtain ⟨ds, i, h, _⟩ := b
  exact ⟨_, h⟩
theorem Box.isD {H : Hp} {B d : Addr} (b : Box H B d) : ∃ o, H d = some o := by
  obtain ⟨ds, i, _, h, _⟩ := b
  exact ⟨_, h⟩
theorem Box.neB {H : Hp} {B d l : Addr} (b : Box H B d) (h : H l = none) : l ≠ B := by
  obtain ⟨o, hB⟩ := b.isB
  exact (ne_of_none hB h).symm
theorem Box.neD {H : Hp} {B d l : Addr} (b : Box H B d) (h : H l = none) : l ≠ d := by
  obtain ⟨o, hB⟩ := b.isD
  exact (ne_of_none hB h).symm
theorem Box.ne {H : Hp} {B d : Addr} {ds : List Int} {i : Int} (h : H B = some (.lst [.ref d, .int i])) (hd : H d = some (.lst (ds.map V.int))) : d ≠ B := by
  rintro rfl
  rw [h] at hd
  cases ds with
  | nil => cases hd
  | cons z r => cases hd
theorem Box.same {H H' : Hp} {B d : Addr} (s : Same H H') (b : Box H B d) : Box H' B d := by
  obtain ⟨ds, i, h, hd, hi⟩ := b
  exact ⟨ds, i, s _ _ h, s _ _ hd, hi⟩
theorem Box.mut {H : Hp} {B d l : Addr} (b : Box H B d) (hB : l ≠ B) (hd : l ≠ d) (o : HO) : Box (upd H l o) B d := by
  obtain ⟨ds, i, h, hd', hi⟩ := b
  exact ⟨ds, i, by rw [upd_ne hB.symm]; exact h, by rw [upd_ne hd.symm]; exact hd', hi⟩
theorem Box.new {H : Hp} {B d l : Addr} (b : Box H B d) (h : H l = none) (o : HO) : Box (upd H l o) B d := b.mut (b.neB h) (b.neD h) o
section
variable {P : Program} {w : World} {K : PySem.W.Frag} {mg : Str → Option Value} {base : Heap}
/-! ### _law_draw -/
abbrev sDraw : Stmt := top 14
theorem scDraw : FnScope ["box", "many", "at"] ["box", "many"] (defScope sDraw) := ⟨rfl, rfl, rfl, by decide +kernel, rfl, by decide +kernel, by decide +kernel⟩
def spDraw : Sp := fun vs H Q _ => ∃ (B d : Addr) (n : Int), vs = [.ref B, .int n] ∧ 0 < n ∧ Box H B d ∧ ∀ z H', 0 ≤ z → z < n → Go B H H' → Box H' B d → Q (.int z) H'
theorem ok_draw {f : Addr} {fd : FuncData} (F : Fun K "_law_draw" "_law_draw" sDraw f fd) (ml : mg "len" = none) (mi : mg "int" = none) : FnOk P w K mg base CX0 1 f fd ["box", "many"] spDraw := by
  refine F.ok scDraw (fun vs H Q E h => ?_) (fun cdv A outer s H vs Q E hr h => ?_)
  · obtain ⟨B, d, n, rfl, _⟩ := h
    rfl
  obtain ⟨B, d, n, rfl, h0, ⟨ds, i, hB, hd, hi⟩, q⟩ := h
  have nd := scDraw.nd
  refine ⟨_, pss_cons (ps_set (i := 2) nd rfl (.inl rfl) (pe_ix ix_list (pv 0) pe_int (fun _ _ => rfl)))
    (pss_cons (ps_asg (pe_op op_add (pv 2) pe_int) (pg_sub (pv 0) pe_int set_list))
    (pss_cons (ps_if (pt_cmpR op_lt (pv 2) (pe_callB call_len_seq (by rfl) ml PySem.boot_len (pa_cons (pe_ix ix_list (pv 0) pe_int (fun _ _ => rfl)) pa_nil)) (nomark _))
      (pss_one (ps_ret (pe_op op_mod (pe_callTy call_int1 (by rfl) mi (by decide +kernel) (pa_cons (pe_ix ix_list (pe_ix ix_list (pv 0) pe_int (fun _ _ => rfl)) (pv 2) (fun _ _ => rfl)) pa_nil)) (pv 1)))) pss_nil)
    (pss_one (ps_ret pe_int)))), ?_⟩
  have ne : d ≠ B := Box.ne hB hd
  refine ⟨_, rfl, B, _, 1, _, rfl, rfl, SqL.of hB, atI_nat (j := 1) rfl, ?_⟩
  refine ⟨_, rfl, _, _, rfl, rfl, _, rfl, B, _, 1, 1, rfl, rfl, hB, rfl, ?_⟩
  have hB' : upd H B (.lst [.ref d, .int (i + 1)]) B = some (.lst [.ref d, .int (i + 1)]) := upd_same
  have hd' : upd H B (.lst [.ref d, .int (i + 1)]) d = some (.lst (ds.map V.int)) := by rw [upd_ne ne]; exact hd
  have hb : Box (upd H B (.lst [.ref d, .int (i + 1)])) B d := ⟨ds, i + 1, hB', hd', by omega⟩
  refine ⟨_, rfl, _, rfl, B, _, 0, _, rfl, rfl, SqL.of hB', atI_nat (j := 0) rfl, d, _, rfl, .inl (SqL.of hd'), _, _, rfl, rfl, _, rfl, ?_⟩
  refine ite2 (fun c => ?_) (fun c => ?_)
  · have c' := of_decide_eq_true c
    rw [List.length_map] at c'
    have hk : i.toNat < ds.length := by omega
    refine ⟨_, rfl, B, _, 0, _, rfl, rfl, SqL.of hB', atI_nat (j := 0) rfl, _, rfl, d, _, i, .int ds[i.toNat], rfl, rfl, SqL.of hd', at_of (j := i.toNat) (by omega) (by rw [List.getElem?_map, List.getElem?_eq_getElem hk] <;> rfl), .inl ⟨_, rfl, _, rfl, _, _, rfl, rfl, h0, ?_⟩⟩
    exact q _ _ (Int.emod_nonneg _ (by omega)) (Int.emod_lt_of_pos _ h0) (Go.box B H _) hb
  · exact q 0 _ (by omega) h0 (Go.box B H _) hb
/-! ### _law_string -/
abbrev sString : Stmt := top 15
theorem scString : FnScope ["box"] ["box"] (defScope sString) := ⟨rfl, rfl, rfl, by decide +kernel, rfl, by decide +kernel, by decide +kernel⟩
def menu : List Str := ["a", "b ", " files", "'", "{x}", "#", "a'{'", "1\n2", "other {", "~"]
def spString : Sp := fun vs H Q _ => ∃ (B d : Addr), vs = [.ref B] ∧ Box H B d ∧ ∀ s H', s ∈ menu → Go B H H' → Box H' B d → Q (.str s) H'
theorem pick {α : Type} {l : List α} {g : α → V} {z : Int} (h0 : 0 ≤ z) (h : z < (l.length : Int)) : ∃ x, x ∈ l ∧ atI (l.map g) z = some (g x) := by
  have hk : z.toNat < l.length := by omega
  exact ⟨l[z.toNat], List.getElem_mem hk, at_of (j := z.toNat) (by omega) (by rw [List.getElem?_map, List.getElem?_eq_getElem hk] <;> rfl)⟩
theorem ok_string {f fD : Addr} {fd fdD : FuncData} (F : Fun K "_law_string" "_law_string" sString f fd) (GD : FnOk P w K mg base CX0 1 fD fdD ["box", "many"] spDraw) (bD : Binds K fdD ["box", "many"] []) (kD : PySem.W.keepIn K (.ref fD) = true) (mD : mg "_law_draw" = some (.ref fD)) :
    FnOk P w K mg base CX0 2 f fd ["box"] spString := by
  refine F.ok scString (fun vs H Q E h => ?_) (fun cdv A outer s H vs Q E hr h => ?_)
  · obtain ⟨B, d, rfl, _⟩ := h
    rfl
  obtain ⟨B, d, rfl, hb, q⟩ := h
  refine ⟨_, pss_one (ps_ret (pe_ix ix_list (pe_lst (pa_cons pe_str (pa_cons pe_str (pa_cons pe_str (pa_cons pe_str (pa_cons pe_str (pa_cons pe_str (pa_cons pe_str (pa_cons pe_str (pa_cons pe_str (pa_cons pe_str pa_nil)))))))))))
    (pe_call GD hr rfl mD kD bD .nil pass0 (pa_cons (pv 0) (pa_cons pe_int pa_nil))) (fun _ _ => rfl))), ?_⟩
  refine ⟨by decide, fun l hl => ?_⟩
  have s1 : Same H (upd H l (.lst (menu.map V.str))) := same_new hl _
  have nB : l ≠ B := hb.neB hl
  refine ⟨_, rfl, B, d, 10, rfl, by decide, hb.same s1, fun z H' h0 h1 g hb' => ?_⟩
  obtain ⟨x, hx, ha⟩ := pick (l := menu) (g := V.str) (z := z) h0 (by show z < ((10 : Nat) : Int); omega)
  refine ⟨l, _, z, .str x, rfl, rfl, SqL.of (g.ext _ _ nB upd_same), ha, ?_⟩
  exact q x _ hx ((Go.new hl _).trans g) hb'
end
end Mw

namespace Mw
open PySem L2
/-! ### what the law's messages are -/
def T.notText : T → Bool
  | .text _ _ => false
  | _ => true
def T.lastText : T → Bool
  | .nil => false
  | .text _ r => match r with | .nil => true | _ => r.lastText
  | .shw _ r => r.lastText
  | .num r => r.lastText
  | .cho _ _ _ r => r.lastText
  | .cas _ _ r => r.lastText
def T.len : T → Nat
  | .nil => 0
  | .text _ r => r.len + 1
  | .shw _ r => r.len + 1
  | .num r => r.len + 1
  | .cho _ _ _ r => r.len + 1
  | .cas _ _ r => r.len + 1
def T.sz : T → Nat
  | .nil => 0
  | .text s r => 1 + s.length + r.sz
  | .shw _ r => 1 + r.sz
  | .num r => 1 + r.sz
  | .cho _ cs o r => 1 + cs.sz + o.sz + r.sz
  | .cas _ m r => 1 + m.sz + r.sz
def T.keys : T → List V
  | .cas k _ r => k :: r.keys
  | _ => []
def words3 : List Str := ["a", "one", "select"]
def nums4 : List Int := [0, 1, 2, 12]
def cats5 : List Str := ["zero", "one", "two", "few", "many"]
def names4 : List Str := ["n", "w", "who", "count"]
def skeys : List V := words3.map V.str
def pkeys : List V := nums4.map V.int ++ cats5.map V.str
/-- a choice's head, and what stands within it: inside a plural or not, its keys -/
inductive HdOk : List V → Bool → Bool → List V → Prop where
  | sel {n : Str} {i : Bool} {ks : List V} (hn : n = "w" ∨ n = "kind") (hk : ks.Sublist skeys) : HdOk [.str "select", .str n] i i ks
  | plu {n : Str} {off : Int} {i : Bool} {ks : List V} (hn : n = "n" ∨ n = "count") (ho : off = 0 ∨ off = 1 ∨ off = 2) (hk : ks.Sublist pkeys ∨ ks.Sublist pkeys.reverse) : HdOk [.str "plural", .str n, .int off] i true ks
/-- c: cases, not a message; d: so many levels of choices; i: inside a plural -/
def Gd : T → Bool → Nat → Bool → Prop
  | .nil, _, _, _ => True
  | .text s r, c, d, i => c = false ∧ s ∈ menu ∧ r.notText = true ∧ Gd r c d i
  | .shw n r, c, d, i => c = false ∧ n ∈ names4 ∧ Gd r c d i
  | .num r, c, d, i => c = false ∧ i = true ∧ Gd r c d i
  | .cho hd cs o r, c, d, i => c = false ∧ (∃ e j, d = e + 1 ∧ HdOk hd i j cs.keys ∧ Gd cs true e j ∧ Gd o false e j) ∧ Gd r c d i
  | .cas _ m r, c, d, i => c = true ∧ Gd m false d i ∧ Gd r c d i
theorem T.app_len (u : T) : ∀ t : T, (t.app u).len = t.len + u.len
  | .nil => by simp [T.app, T.len]
  | .text _ r => by simp [T.app, T.len, T.app_len u r]; omega
  | .shw _ r => by simp [T.app, T.len, T.app_len u r]; omega
  | .num r => by simp [T.app, T.len, T.app_len u r]; omega
  | .cho _ _ _ r => by simp [T.app, T.len, T.app_len u r]; omega
  | .cas _ _ r => by simp [T.app, T.len, T.app_len u r]; omega
theorem T.app_sz (u : T) : ∀ t : T, (t.app u).sz = t.sz + u.sz
  | .nil => by simp [T.app, T.sz]
  | .text _ r => by simp [T.app, T.sz, T.app_sz u r]; omega
  | .shw _ r => by simp [T.app, T.sz, T.app_sz u r]; omega
  | .num r => by simp [T.app, T.sz, T.app_sz u r]; omega
  | .cho _ _ _ r => by simp [T.app, T.sz, T.app_sz u r]; omega
  | .cas _ _ r => by simp [T.app, T.sz, T.app_sz u r]; omega
theorem T.app_keys (k : V) (m u : T) : ∀ (t : T) (d : Nat) (i : Bool), Gd t true d i → (t.app (.cas k m u)).keys = t.keys ++ k :: u.keys
  | .nil, _, _, _ => rfl
  | .text _ r, _, _, h => by cases h.1
  | .shw _ r, _, _, h => by cases h.1
  | .num r, _, _, h => by cases h.1
  | .cho _ _ _ r, _, _, h => by cases h.1
  | .cas _ _ r, d, i, h => by simp [T.app, T.keys, T.app_keys k m u r d i h.2.2]
theorem T.notText_app {r u : T} (h : r.notText = true) (hu : r = .nil → u.notText = true) : (r.app u).notText = true := by
  cases r <;> first | exact hu rfl | rfl | cases h
theorem Gd.app {u : T} {c : Bool} {d : Nat} {i : Bool} (hu : Gd u c d i) : ∀ {t : T}, Gd t c d i → (t.lastText = true → u.notText = true) → Gd (t.app u) c d i
  | .nil, _, _ => hu
  | .text s r, h, l => by
    refine ⟨h.1, h.2.1, T.notText_app h.2.2.1 (fun e => ?_), Gd.app hu h.2.2.2 (fun e => ?_)⟩
    · subst e
      exact l rfl
    · refine l ?_
      cases r <;> first | rfl | exact e
  | .shw n r, h, l => ⟨h.1, h.2.1, Gd.app hu h.2.2 l⟩
  | .num r, h, l => ⟨h.1, h.2.1, Gd.app hu h.2.2 l⟩
  | .cho hd cs o r, h, l => ⟨h.1, h.2.1, Gd.app hu h.2.2 l⟩
  | .cas k m r, h, l => ⟨h.1, h.2.1, Gd.app hu h.2.2 l⟩
theorem Nodes.length {H : Hp} : ∀ {t : T} {vs : List V}, Nodes H t vs → vs.length = t.len
  | .nil, _, h => by
    have h' : _ = [] := h
    subst h'
    rfl
  | .text s r, _, h => by
    obtain ⟨p, ws, rfl, _, hr⟩ := h
    exact congrArg (· + 1) hr.length
  | .shw n r, _, h => by
    obtain ⟨p, ws, rfl, _, hr⟩ := h
    exact congrArg (· + 1) hr.length
  | .num r, _, h => by
    obtain ⟨p, ws, rfl, _, hr⟩ := h
    exact congrArg (· + 1) hr.length
  | .cho hd cs o r, _, h => by
    obtain ⟨p, ws, ca, cvs, oa, ovs, rfl, _, _, _, _, _, hr⟩ := h
    exact congrArg (· + 1) hr.length
  | .cas k m r, _, h => by
    obtain ⟨p, ws, ma, mvs, rfl, _, _, _, hr⟩ := h
    exact congrArg (· + 1) hr.length
/-- a message's last node is a tuple whose first item tells whether it is a text -/
theorem Nodes.last {H : Hp} : ∀ {t : T} {vs : List V} {d : Nat} {i : Bool}, Nodes H t vs → Gd t false d i → vs ≠ [] → ∃ us p x xs, vs = us ++ [.ref p] ∧ H p = some (.tup (.str x :: xs)) ∧ (x = "text" ↔ t.lastText = true)
  | .nil, _, _, _, h, _, n => absurd h n
  | .text s r, _, d, i, h, g, _ => by
    obtain ⟨p, ws, rfl, hp, hr⟩ := h
    by_cases e : ws = []
    · subst e
      have : r = .nil := by
        have := hr.length
        cases r <;> first | rfl | (simp [T.len] at this)
      subst this
      exact ⟨[], p, _, _, rfl, hp, by simp [T.lastText]⟩
    · obtain ⟨us, q, x, xs, e1, e2, e3⟩ := Nodes.last hr g.2.2.2 e
      refine ⟨.ref p :: us, q, x, xs, by rw [e1]; rfl, e2, ?_⟩
      rw [e3]
      cases r <;> first | rfl | (exfalso; exact e hr)
  | .shw s r, _, d, i, h, g, _ => by
    obtain ⟨p, ws, rfl, hp, hr⟩ := h
    by_cases e : ws = []
    · subst e
      have : r = .nil := by
        have := hr.length
        cases r <;> first | rfl | (simp [T.len] at this)
      subst this
      exact ⟨[], p, _, _, rfl, hp, by simp [T.lastText]; decide⟩
    · obtain ⟨us, q, x, xs, e1, e2, e3⟩ := Nodes.last hr g.2.2 e
      exact ⟨.ref p :: us, q, x, xs, by rw [e1]; rfl, e2, e3⟩
  | .num r, _, d, i, h, g, _ => by
    obtain ⟨p, ws, rfl, hp, hr⟩ := h
    by_cases e : ws = []
    · subst e
      have : r = .nil := by
        have := hr.length
        cases r <;> first | rfl | (simp [T.len] at this)
      subst this
      exact ⟨[], p, _, _, rfl, hp, by simp [T.lastText]; decide⟩
    · obtain ⟨us, q, x, xs, e1, e2, e3⟩ := Nodes.last hr g.2.2 e
      exact ⟨.ref p :: us, q, x, xs, by rw [e1]; rfl, e2, e3⟩
  | .cho hd cs o r, _, d, i, h, g, _ => by
    obtain ⟨p, ws, ca, cvs, oa, ovs, rfl, hp, _, _, _, _, hr⟩ := h
    by_cases e : ws = []
    · subst e
      have : r = .nil := by
        have := hr.length
        cases r <;> first | rfl | (simp [T.len] at this)
      subst this
      obtain ⟨_, ⟨e', j, _, hh, _⟩, _⟩ := g
      cases hh with
      | sel => exact ⟨[], p, _, _, rfl, hp, by simp [T.lastText]; decide⟩
      | plu => exact ⟨[], p, _, _, rfl, hp, by simp [T.lastText]; decide⟩
    · obtain ⟨us, q, x, xs, e1, e2, e3⟩ := Nodes.last hr g.2.2 e
      exact ⟨.ref p :: us, q, x, xs, by rw [e1]; rfl, e2, e3⟩
  | .cas k m r, _, _, _, _, g, _ => by cases g.1
/-- the sizes by levels -/
def nodeW : Nat → Nat
  | 0 => 8
  | d + 1 => 10 + 30 * nodeW d
def msgW (d : Nat) : Nat := 3 * nodeW d
theorem nodeW_ge : ∀ d, 8 ≤ nodeW d
  | 0 => Nat.le_refl _
  | d + 1 => by have := nodeW_ge d; show 8 ≤ 10 + 30 * nodeW d; omega
theorem menu_len {s : Str} (h : s ∈ menu) : s.length ≤ 7 := by
  have a : ∀ s ∈ menu, s.length ≤ 7 := by decide +kernel
  exact a s h
end Mw

namespace Mw
open PySem L2
section
variable {P : Program} {w : World} {K : PySem.W.Frag} {mg : Str → Option Value} {base : Heap}
/-! ### the builder's promises -/
abbrev sSel : Stmt := top 16
abbrev sPlu : Stmt := top 17
abbrev sMsg : Stmt := top 18
theorem scSel : FnScope ["box", "depth", "inside", "cases", "word"] ["box", "depth", "inside"] (defScope sSel) := ⟨rfl, rfl, rfl, by decide +kernel, rfl, by decide +kernel, by decide +kernel⟩
theorem scPlu : FnScope ["box", "depth", "cases", "key"] ["box", "depth"] (defScope sPlu) := ⟨rfl, rfl, rfl, by decide +kernel, rfl, by decide +kernel, by decide +kernel⟩
theorem scMsg : FnScope ["box", "depth", "inside", "message", "turn", "kind"] ["box", "depth", "inside"] (defScope sMsg) := ⟨rfl, rfl, rfl, by decide +kernel, rfl, by decide +kernel, by decide +kernel⟩
/-- a new message of at most d levels -/
def spMsg (d : Nat) : Sp := fun vs H Q _ => ∃ (B b : Addr) (i : Bool), vs = [.ref B, .int d, .bl i] ∧ Box H B b ∧
  ∀ r H' t, Go B H H' → Box H' B b → At (fr H H') r t → Gd t false d i → t.sz ≤ msgW d → t.len ≤ 3 → Q (.ref r) H'
/-- a new node: a choice -/
def NodeAt (H H' : Hp) (p : Addr) (d : Nat) (i : Bool) : Prop := ∃ hd cs o, Nodes (fr H H') (.cho hd cs o .nil) [.ref p] ∧ Gd (.cho hd cs o .nil) false d i ∧ (T.cho hd cs o .nil).sz ≤ nodeW d
def spSel (d : Nat) : Sp := fun vs H Q _ => ∃ (B b : Addr) (i : Bool) (e : Nat), d = e + 1 ∧ vs = [.ref B, .int d, .bl i] ∧ Box H B b ∧ ∀ p H', Go B H H' → Box H' B b → NodeAt H H' p d i → Q (.ref p) H'
def spPlu (d : Nat) : Sp := fun vs H Q _ => ∃ (B b : Addr) (e : Nat), d = e + 1 ∧ vs = [.ref B, .int d] ∧ Box H B b ∧ ∀ p H', Go B H H' → Box H' B b → (∀ i, NodeAt H H' p d i) → Q (.ref p) H'
theorem sz_line {n : Nat} (h : n < 10000000) : n < sizeLine := Nat.lt_of_lt_of_le h (by decide)
theorem le_line {n : Nat} (h : n < 10000000) : n ≤ sizeLine := Nat.le_of_lt (sz_line h)
end
end Mw

namespace Mw
open PySem L2
def MsgInv (B b : Addr) (H H1 : Hp) (l : Addr) (d : Nat) (ins : Bool) (i : Nat) (σ : St) (H' : Hp) : Prop :=
  ∃ vs t o4 o5, σ = [some (.ref B), some (.int d), some (.bl ins), some (.ref l), o4, o5] ∧ Go B H H' ∧ Box H' B b ∧ H' l = some (.lst vs) ∧ Nodes (fr H1 H') t vs ∧ Gd t false d ins ∧ t.sz ≤ i * nodeW d ∧ t.len ≤ i
theorem dom1 {B l : Addr} {H H' : Hp} {o o' : HO} (g : Go B H H') (hl : H' l = some o') : ∀ c, H' c = none → upd H l o c = none := fun c hc => by
  rw [upd_ne (by rintro rfl; rw [hl] at hc; cases hc)]
  exact g.dom c hc
theorem MsgInv.grow {B b l p : Addr} {H H' H'' : Hp} {d : Nat} {ins : Bool} {i : Nat} {vs : List V} {t u : T} {o4 o5 : Option V} {o : HO} (hl0 : H l = none) (hlB : l ≠ B) (hlb : l ≠ b) (hB : ∃ o, H B = some o)
    (g : Go B H H') (hl : H' l = some (.lst vs)) (hn : Nodes (fr (upd H l o) H') t vs) (hg : Gd t false d ins) (hs : t.sz ≤ i * nodeW d) (hlen : t.len ≤ i)
    (g2 : Go B H' H'') (hb : Box H'' B b) (hu : Nodes (fr (upd H l o) H'') u [.ref p]) (gu : Gd u false d ins) (su : u.sz ≤ nodeW d) (lu : u.len = 1) (nt : t.lastText = true → u.notText = true) :
    MsgInv B b H (upd H l o) l d ins (i + 1) [some (.ref B), some (.int d), some (.bl ins), some (.ref l), o4, o5] (upd H'' l (.lst (vs ++ [.ref p]))) := by
  obtain ⟨oB, hB⟩ := hB
  have hB1 : upd H l o B = some oB := by rw [upd_ne hlB.symm]; exact hB
  refine ⟨vs ++ [.ref p], t.app u, o4, o5, rfl, (g.trans g2).mut hl0 _, hb.mut hlB hlb _, upd_same, ?_, hg |> fun h => Gd.app gu h nt, ?_, ?_⟩
  · exact Nodes.same (fr_mut upd_same _) (Nodes.app hu (Nodes.same (fr_go hB1 g2) hn))
  · rw [T.app_sz, Nat.add_mul, Nat.one_mul]
    omega
  · rw [T.app_len]
    omega
/-! ### tests that come to a Bool, the heap as it is -/
theorem t_or {t u : TT} {σ : L2.St} {H : Hp} {Q : Bool → Hp → Prop} (a b : Bool) (ht : ∀ Q : Bool → Hp → Prop, Q a H → t σ H Q) (hu : a = false → ∀ Q : Bool → Hp → Prop, Q b H → u σ H Q) (q : Q (a || b) H) : tOr t u σ H Q := by
  refine ht _ ?_
  cases a with
  | true => exact iteT q
  | false => exact iteF (hu rfl _ q)
theorem t_and {t u : TT} {σ : L2.St} {H : Hp} {Q : Bool → Hp → Prop} (a b : Bool) (ht : ∀ Q : Bool → Hp → Prop, Q a H → t σ H Q) (hu : a = true → ∀ Q : Bool → Hp → Prop, Q b H → u σ H Q) (q : Q (a && b) H) : tAnd t u σ H Q := by
  refine ht _ ?_
  cases a with
  | true => exact iteT (hu rfl _ q)
  | false => exact iteF q
theorem i_or {t u : TT} {tu tw : TS} {D : Ends} {σ : L2.St} {H : Hp} (a b : Bool) (ht : ∀ Q : Bool → Hp → Prop, Q a H → t σ H Q) (hu : a = false → ∀ Q : Bool → Hp → Prop, Q b H → u σ H Q) (q : if (a || b) = true then tu D σ H else tw D σ H) : tIfS (tOr t u) tu tw D σ H :=
  t_or (Q := fun c H1 => if c = true then tu D σ H1 else tw D σ H1) a b ht hu q
theorem int_eq {i j : Int} (h : V.int i = V.int j) : i = j := by cases h; rfl
theorem str_eq {i j : Str} (h : V.str i = V.str j) : i = j := by cases h; rfl
section
variable {P : Program} {w : World} {K : PySem.W.Frag} {mg : Str → Option Value} {base : Heap}
theorem pickL {l : List Str} {z : Int} (h0 : 0 ≤ z) (h : z < (l.length : Int)) : ∃ x, x ∈ l ∧ atI (l.map V.str) z = some (V.str x) := pick h0 h
theorem ok_msg {k d : Nat} {f fD fT fS fP : Addr} {fd fdD fdT fdS fdP : FuncData} (hk : 2 ≤ k) (F : Fun K "_law_message" "_law_message" sMsg f fd)
    (GD : FnOk P w K mg base CX0 1 fD fdD ["box", "many"] spDraw) (bD : Binds K fdD ["box", "many"] []) (kD : PySem.W.keepIn K (.ref fD) = true) (mD : mg "_law_draw" = some (.ref fD))
    (GT : FnOk P w K mg base CX0 2 fT fdT ["box"] spString) (bT : Binds K fdT ["box"] []) (kT : PySem.W.keepIn K (.ref fT) = true) (mT : mg "_law_string" = some (.ref fT))
    (GS : FnOk P w K mg base CX0 k fS fdS ["box", "depth", "inside"] (spSel d)) (bS : Binds K fdS ["box", "depth", "inside"] []) (kS : PySem.W.keepIn K (.ref fS) = true) (mS : mg "_law_select" = some (.ref fS))
    (GP : FnOk P w K mg base CX0 k fP fdP ["box", "depth"] (spPlu d)) (bP : Binds K fdP ["box", "depth"] []) (kP : PySem.W.keepIn K (.ref fP) = true) (mP : mg "_law_plural" = some (.ref fP))
    (mr : mg "range" = none) (ml : mg "len" = none) : FnOk P w K mg base CX0 (k + 1) f fd ["box", "depth", "inside"] (spMsg d) := by
  refine F.ok scMsg (fun vs H Q E h => ?_) (fun cdv A outer s H vs Q E hr h => ?_)
  · obtain ⟨B, b, i, rfl, _⟩ := h
    rfl
  obtain ⟨B, b, ins, rfl, hb, q⟩ := h
  have nd := scMsg.nd
  have hr1 : Room 1 _ := hr.mono (by omega)
  have hr2 : Room 2 _ := hr.mono hk
  refine ⟨_, pss_cons (ps_set (i := 3) nd rfl (.inl rfl) (pe_lst pa_nil))
    (pss_cons (ps_for PassesOwn.never rfl (pi_range1 rfl mr (pa_cons (pe_call GD hr1 rfl mD kD bD .nil pass0 (pa_cons (pv 0) (pa_cons pe_int pa_nil))) pa_nil)) (pg_name (i := 4) nd rfl (.inl rfl))
      (pss_cons (ps_set (i := 5) nd rfl (.inl rfl) (pe_call GD hr1 rfl mD kD bD .nil pass0 (pa_cons (pv 0) (pa_cons pe_int pa_nil))))
      (pss_one (ps_if (PW.pt (pw_or (pt_cmpR op_lt (pv 5) pe_int (nomark _)) (pw_or1 (PW.pt (pw_and (pt_cmpR op_eq (pv 1) pe_int (nomark _)) (pw_and1 (pt_cmpR op_gt (pv 5) pe_int (nomark _))))))))
        (pss_one (ps_if (PW.pt (pw_or (pt_cmpR op_eq (pe_callB call_len_seq (by rfl) ml PySem.boot_len (pa_cons (pv 3) pa_nil)) pe_int (nomark _)) (pw_or1 (pt_cmpR op_ne (pe_ix ix_tup (pe_ix ix_list (pv 3) (pe_un un_neg pe_int) (fun _ _ => rfl)) pe_int (fun _ _ => rfl)) pe_str (nomark _)))))
          (pss_one (ps_expr (pe_bm PySem.F.plainAttrs_list PySem.F.slot_list_append PySem.F.type_list_append mt_append (pv 3) (pa_cons (pe_tup (pa_cons pe_str (pa_cons (pe_call GT hr2 rfl mT kT bT .nil pass0 (pa_cons (pv 0) pa_nil)) pa_nil))) pa_nil)))) pss_nil))
        (pss_one (ps_if (pt_cmpR op_eq (pv 5) pe_int (nomark _))
          (pss_one (ps_expr (pe_bm PySem.F.plainAttrs_list PySem.F.slot_list_append PySem.F.type_list_append mt_append (pv 3) (pa_cons (pe_tup (pa_cons pe_str (pa_cons (pe_ix ix_list (pe_lst (pa_cons pe_str (pa_cons pe_str (pa_cons pe_str (pa_cons pe_str pa_nil))))) (pe_call GD hr1 rfl mD kD bD .nil pass0 (pa_cons (pv 0) (pa_cons pe_int pa_nil))) (fun _ _ => rfl)) pa_nil))) pa_nil))))
          (pss_one (ps_if (pt_cmpR op_eq (pv 5) pe_int (nomark _))
            (pss_one (ps_if (pt_val (pv 2)) (pss_one (ps_expr (pe_bm PySem.F.plainAttrs_list PySem.F.slot_list_append PySem.F.type_list_append mt_append (pv 3) (pa_cons (pe_tup (pa_cons pe_str pa_nil)) pa_nil)))) pss_nil))
            (pss_one (ps_if (pt_cmpR op_lt (pv 5) pe_int (nomark _))
              (pss_one (ps_expr (pe_bm PySem.F.plainAttrs_list PySem.F.slot_list_append PySem.F.type_list_append mt_append (pv 3) (pa_cons (pe_call GP hr rfl mP kP bP .nil pass0 (pa_cons (pv 0) (pa_cons (pv 1) pa_nil))) pa_nil))))
              (pss_one (ps_expr (pe_bm PySem.F.plainAttrs_list PySem.F.slot_list_append PySem.F.type_list_append mt_append (pv 3) (pa_cons (pe_call GS hr rfl mS kS bS .nil pass0 (pa_cons (pv 0) (pa_cons (pv 1) (pa_cons (pv 2) pa_nil)))) pa_nil))))))))))))))
    (pss_one (ps_ret (pv 3)))), ?_⟩
  refine ⟨Nat.zero_le _, fun l hl => ?_⟩
  have hlB := hb.neB hl
  have hlb := hb.neD hl
  have hBs := hb.isB
  refine ⟨_, rfl, B, b, 4, rfl, by decide, hb.new hl _, fun z H2 z0 z4 g2 hb2 => ?_⟩
  refine ⟨z, rfl, by omega, by omega, for_range (lo := 0) (n := z.toNat) (MsgInv B b H (upd H l (.lst [])) l d ins) ⟨[], .nil, none, none, rfl, (Go.new hl _).trans g2, hb2, g2.ext _ _ hlB upd_same, rfl, trivial, Nat.zero_le _, Nat.le_refl _⟩ ?_ ?_⟩
  rotate_left
  · rintro σ H' ⟨vs, t, o4, o5, rfl, g, hb', hl', hn, hg, hs, hlen⟩
    refine ⟨_, rfl, q l H' t g hb' ⟨vs, ?_, ?_⟩ hg ?_ (by omega)⟩
    · rw [fr_new hl]
      exact hl'
    · exact Nodes.same (fr_dom fun c hc => upd_none hc) hn
    · have : z.toNat * nodeW d ≤ 3 * nodeW d := Nat.mul_le_mul_right _ (by omega)
      exact Nat.le_trans hs this
  · rintro i σ H' hi ⟨vs, t, o4, o5, rfl, g, hb', hl', hn, hg, hs, hlen⟩
    have hvs : vs.length < 1000 := by
      rw [hn.length]
      omega
    refine ⟨_, rfl, B, b, 8, rfl, by decide, hb', fun kind H3 k0 k8 g3 hb3 => ?_⟩
    have hl3 : H3 l = some (.lst vs) := g3.ext _ _ hlB hl'
    have g03 := g.trans g3
    have hB1 : ∃ o, upd H l (HO.lst []) B = some o := by
      obtain ⟨o, h⟩ := hBs
      exact ⟨o, by rw [upd_ne hlB.symm]; exact h⟩
    have hn3 : Nodes (fr (upd H l (.lst [])) H3) t vs := by
      obtain ⟨o, h⟩ := hB1
      exact Nodes.same (fr_go h g3) hn
    dsimp only [gName]
    refine i_or (decide (kind < 3)) (decide (V.int (d : Int) = V.int 0) && decide (4 < kind)) (fun Q q => ⟨_, rfl, _, _, rfl, rfl, _, rfl, q⟩)
      (fun _ Q q => t_and (decide (V.int (d : Int) = V.int 0)) (decide (4 < kind)) (fun Q q => ⟨_, rfl, rfl, _, rfl, q⟩) (fun _ Q q => ⟨_, rfl, _, _, rfl, rfl, _, rfl, q⟩) q) ?_
    refine ite2 (fun c => ?_) (fun c => ?_)
    · -- a text
      refine i_or (decide (V.int (vs.length : Int) = V.int 0)) (!t.lastText) (fun Q q => ⟨_, rfl, l, _, rfl, .inl (SqL.of hl3), rfl, _, rfl, q⟩) (fun e Q q => ?_) ?_
      · have ne : vs ≠ [] := by
          rintro rfl
          cases e
        obtain ⟨us, p, x, xs, e1, e2, e3⟩ := Nodes.last hn3 hg ne
        refine ⟨_, rfl, 1, rfl, l, _, -1, .ref p, rfl, rfl, SqL.of hl3, by rw [e1]; exact atI_last _ _, p, _, 0, .str x, rfl, rfl, .inl (.inl (fr_out _ _ e2)), atI_nat (j := 0) rfl, rfl, _, rfl, ?_⟩
        have eb : (!t.lastText) = (!decide (V.str x = V.str "text")) := by
          cases ht : t.lastText with
          | true =>
            rw [e3.mpr ht, decide_eq_true rfl]
          | false =>
            rw [decide_eq_false]
            intro z
            rw [e3.mp (str_eq z)] at ht
            cases ht
        rw [← eb]
        exact q
      · refine ite2 (fun c2 => ?_) (fun c2 => ?_)
        · have nl : t.lastText = true → T.notText (.text "" .nil) = true := fun hlt => by
            exfalso
            rw [hlt] at c2
            have c3 := of_decide_eq_true ((Bool.or_false _).symm.trans c2)
            have : vs = [] := List.length_eq_zero_iff.mp (by have := int_eq c3; omega)
            subst this
            have ht : t = .nil := by
              have := hn3.length
              cases t <;> first | rfl | (simp [T.len] at this)
            subst ht
            cases hlt
          refine ⟨_, rfl, .inl ⟨rfl, _, SqL.of hl3⟩, _, rfl, B, b, rfl, hb3, fun x H4 hx g4 hb4 => ⟨by show 2 ≤ sizeLine; decide, fun p hp => ?_⟩⟩
          have hl4 : H4 l = some (.lst vs) := g4.ext _ _ hlB hl3
          have hp1 : upd H l (HO.lst []) p = none := dom1 (g03.trans g4) hl4 p hp
          refine ⟨l, _, _, rfl, rfl, (by rw [upd_ne (ne_of_none hl4 hp)]; exact hl4), sz_line (by omega), ?_⟩
          exact MsgInv.grow (u := .text x .nil) hl hlB hlb hBs g03 hl3 hn3 hg hs hlen (g4.trans (Go.new hp _)) (hb4.new hp _) ⟨p, [], rfl, by rw [fr_new hp1]; exact upd_same, rfl⟩ ⟨rfl, hx, rfl, trivial⟩
            (by have := menu_len hx; have := nodeW_ge d; show 1 + x.length + 0 ≤ _; omega) rfl nl
        · exact ⟨vs, t, _, _, rfl, g03, hb3, hl3, hn3, hg, by rw [Nat.add_mul]; omega, by omega⟩
    · -- another kind of node
      have hd1 : ¬ kind < 3 ∧ ¬ (d = 0 ∧ 4 < kind) := by
        constructor
        · intro h
          exact c (by rw [decide_eq_true h]; rfl)
        · rintro ⟨rfl, h⟩
          refine c ?_
          rw [decide_eq_true h]
          exact Bool.or_true _
      refine ⟨_, rfl, rfl, _, rfl, ite2 (fun c3 => ?_) (fun c3 => ⟨_, rfl, rfl, _, rfl, ite2 (fun c4 => ?_) (fun c4 => ⟨_, rfl, _, _, rfl, rfl, _, rfl, ite2 (fun c5 => ?_) (fun c5 => ?_)⟩)⟩)⟩
      · -- show
        refine ⟨_, rfl, .inl ⟨rfl, _, SqL.of hl3⟩, by decide, fun m hm => ?_⟩
        have hmB := hb3.neB hm
        refine ⟨_, rfl, B, b, 4, rfl, by decide, hb3.new hm _, fun z' H4 z0' z4' g4 hb4 => ?_⟩
        obtain ⟨x, hx, ha⟩ := pickL (l := names4) z0' (by show z' < ((4 : Nat) : Int); omega)
        refine ⟨m, _, z', .str x, rfl, rfl, SqL.of (g4.ext _ _ hmB upd_same), ha, by show 2 ≤ sizeLine; decide, fun p hp => ?_⟩
        have g34 : Go B H3 H4 := (Go.new hm _).trans g4
        have hl4 : H4 l = some (.lst vs) := g34.ext _ _ hlB hl3
        have hp1 : upd H l (HO.lst []) p = none := dom1 (g03.trans g34) hl4 p hp
        refine ⟨l, _, _, rfl, rfl, (by rw [upd_ne (ne_of_none hl4 hp)]; exact hl4), sz_line (by omega), ?_⟩
        exact MsgInv.grow (u := .shw x .nil) hl hlB hlb hBs g03 hl3 hn3 hg hs hlen (g34.trans (Go.new hp _)) (hb4.new hp _) ⟨p, [], rfl, by rw [fr_new hp1]; exact upd_same, rfl⟩ ⟨rfl, hx, trivial⟩
            (by have := nodeW_ge d; show 1 + 0 ≤ _; omega) rfl fun _ => rfl
      · -- number
        refine ⟨_, rfl, _, rfl, ite2 (fun c6 => ?_) (fun c6 => ?_)⟩
        · refine ⟨_, rfl, .inl ⟨rfl, _, SqL.of hl3⟩, by show 1 ≤ sizeLine; decide, fun p hp => ?_⟩
          have hp1 : upd H l (HO.lst []) p = none := dom1 g03 hl3 p hp
          refine ⟨l, _, _, rfl, rfl, (by rw [upd_ne (ne_of_none hl3 hp)]; exact hl3), sz_line (by omega), ?_⟩
          exact MsgInv.grow (u := .num .nil) hl hlB hlb hBs g03 hl3 hn3 hg hs hlen (Go.new hp _) (hb3.new hp _) ⟨p, [], rfl, by rw [fr_new hp1]; exact upd_same, rfl⟩ ⟨rfl, c6, trivial⟩
            (by have := nodeW_ge d; show 1 + 0 ≤ _; omega) rfl fun _ => rfl
        · exact ⟨vs, t, _, _, rfl, g03, hb3, hl3, hn3, hg, by rw [Nat.add_mul]; omega, by omega⟩
      all_goals
        have hk4 : ¬ kind = 4 := fun e => c4 (by rw [e]; rfl)
        have hk3 : ¬ kind = 3 := fun e => c3 (by rw [e]; rfl)
        obtain ⟨e, he⟩ : ∃ e, d = e + 1 := by
          cases d with
          | zero => exact absurd (by omega) (fun h => hd1.2 ⟨rfl, h⟩)
          | succ e => exact ⟨e, rfl⟩
      · refine ⟨_, rfl, .inl ⟨rfl, _, SqL.of hl3⟩, _, rfl, _, rfl, B, b, e, he, rfl, hb3, fun p H4 g4 hb4 hN => ?_⟩
        obtain ⟨hd', cs, o, n1, n2, n3⟩ := hN ins
        have hl4 : H4 l = some (.lst vs) := g4.ext _ _ hlB hl3
        refine ⟨l, _, _, rfl, rfl, hl4, sz_line (by omega), ?_⟩
        exact MsgInv.grow hl hlB hlb hBs g03 hl3 hn3 hg hs hlen g4 hb4 (Nodes.same (fr_dom (dom1 g03 hl3)) n1) n2 n3 rfl fun _ => rfl
      · refine ⟨_, rfl, .inl ⟨rfl, _, SqL.of hl3⟩, _, rfl, _, rfl, _, rfl, B, b, ins, e, he, rfl, hb3, fun p H4 g4 hb4 hN => ?_⟩
        obtain ⟨hd', cs, o, n1, n2, n3⟩ := hN
        have hl4 : H4 l = some (.lst vs) := g4.ext _ _ hlB hl3
        refine ⟨l, _, _, rfl, rfl, hl4, sz_line (by omega), ?_⟩
        exact MsgInv.grow hl hlB hlb hBs g03 hl3 hn3 hg hs hlen g4 hb4 (Nodes.same (fr_dom (dom1 g03 hl3)) n1) n2 n3 rfl fun _ => rfl
end
end Mw

namespace Mw
open PySem L2
def CasInv (B b l wl : Addr) (H H1 : Hp) (ks : List V) (e : Nat) (j : Bool) (i : Nat) (H' : Hp) : Prop :=
  ∃ vs t, Go B H H' ∧ Box H' B b ∧ H' wl = some (.lst ks) ∧ H' l = some (.lst vs) ∧ Nodes (fr H1 H') t vs ∧ Gd t true e j ∧ t.keys.Sublist (ks.take i) ∧ t.sz ≤ i * (1 + msgW e)
theorem CasInv.skip {B b l wl : Addr} {H H1 H' H'' : Hp} {ks : List V} {e : Nat} {j : Bool} {i : Nat} (h : CasInv B b l wl H H1 ks e j i H') (hlB : l ≠ B) (hwB : wl ≠ B) (hB : ∃ o, H1 B = some o) (g : Go B H' H'') (hb : Box H'' B b) : CasInv B b l wl H H1 ks e j i H'' := by
  obtain ⟨vs, t, g1, _, hw, hl, hn, hg, hk, hs⟩ := h
  obtain ⟨o, hB⟩ := hB
  exact ⟨vs, t, g1.trans g, hb, g.ext _ _ hwB hw, g.ext _ _ hlB hl, Nodes.same (fr_go hB g) hn, hg, hk, hs⟩
theorem take_mono {α : Type} {ys xs : List α} {i : Nat} (h : ys.Sublist (xs.take i)) : ys.Sublist (xs.take (i + 1)) :=
  h.trans (by rw [List.take_succ]; exact List.sublist_append_left _ _)
theorem CasInv.next {B b l wl : Addr} {H H1 H' : Hp} {ks : List V} {e : Nat} {j : Bool} {i : Nat} (h : CasInv B b l wl H H1 ks e j i H') : CasInv B b l wl H H1 ks e j (i + 1) H' := by
  obtain ⟨vs, t, g1, hb, hw, hl, hn, hg, hk, hs⟩ := h
  exact ⟨vs, t, g1, hb, hw, hl, hn, hg, take_mono hk, by rw [Nat.add_mul]; omega⟩
theorem CasInv.grow {B b l wl p r : Addr} {H H' H'' : Hp} {ks : List V} {e : Nat} {j : Bool} {i : Nat} {vs : List V} {t m : T} {k : V} {o : HO} (hl0 : H l = none) (hlB : l ≠ B) (hlb : l ≠ b) (hlw : wl ≠ l) (hwB : wl ≠ B) (hB : ∃ o, H B = some o)
    (g : Go B H H') (hl : H' l = some (.lst vs)) (hw : H' wl = some (.lst ks)) (hn : Nodes (fr (upd H l o) H') t vs) (hg : Gd t true e j) (hs : t.sz ≤ i * (1 + msgW e)) (hk : t.keys.Sublist (ks.take i)) (hki : ks[i]? = some k)
    (g2 : Go B H' H'') (hb : Box H'' B b) (hr : At (fr H' H'') r m) (gm : Gd m false e j) (sm : m.sz ≤ msgW e) (hp : H'' p = none) :
    CasInv B b l wl H (upd H l o) ks e j (i + 1) (upd (upd H'' p (.tup [k, .ref r])) l (.lst (vs ++ [.ref p]))) := by
  obtain ⟨oB, hB⟩ := hB
  have hB1 : upd H l o B = some oB := by rw [upd_ne hlB.symm]; exact hB
  have hl2 : H'' l = some (.lst vs) := g2.ext _ _ hlB hl
  have hw2 : H'' wl = some (.lst ks) := g2.ext _ _ hwB hw
  have hp1 : upd H l o p = none := dom1 (g.trans g2) hl2 p hp
  have s3 : Same H'' (upd H'' p (.tup [k, .ref r])) := same_new hp _
  have hu : Nodes (fr (upd H l o) (upd H'' p (.tup [k, .ref r]))) (.cas k m .nil) [.ref p] := by
    obtain ⟨ws, hr1, hr2⟩ := hr
    have sd : Same (fr H' H'') (fr (upd H l o) (upd H'' p (.tup [k, .ref r]))) := Same.trans (fr_dom (dom1 g hl)) (fr_same s3)
    exact ⟨p, [], r, ws, rfl, by rw [fr_new hp1]; exact upd_same, sd _ _ hr1, Nodes.same sd hr2, rfl⟩
  refine ⟨vs ++ [.ref p], t.app (.cas k m .nil), ((g.trans g2).trans (Go.new hp _)).mut hl0 _, (hb.new hp _).mut hlB hlb _, ?_, upd_same, ?_, ?_, ?_, ?_⟩
  · rw [upd_ne hlw]
    exact s3 _ _ hw2
  · exact Nodes.same (fr_mut upd_same _) (Nodes.app hu (Nodes.same (fr_same s3) (Nodes.same (fr_go hB1 g2) hn)))
  · exact Gd.app (show Gd (.cas k m .nil) true e j from ⟨rfl, gm, trivial⟩) hg fun _ => rfl
  · rw [T.app_keys k m .nil t e j hg, List.take_succ, hki]
    exact hk.append (List.Sublist.refl _)
  · rw [T.app_sz, Nat.add_mul, Nat.one_mul]
    have : (T.cas k m .nil).sz = 1 + m.sz := by simp [T.sz]
    omega
/-- the choice at the end -/
theorem cho_end {B l r p : Addr} {H H' H'' : Hp} {hd : List V} {e : Nat} {i j : Bool} {vs : List V} {t o : T} {ol : HO} (hl0 : H l = none) (hlB : l ≠ B) (hB : ∃ o, H B = some o)
    (g : Go B H H') (hl : H' l = some (.lst vs)) (hn : Nodes (fr (upd H l ol) H') t vs) (hg : Gd t true e j) (hs : t.sz ≤ 9 * (1 + msgW e))
    (g2 : Go B H' H'') (hr : At (fr H' H'') r o) (go : Gd o false e j) (so : o.sz ≤ msgW e) (hp : H'' p = none) (hh : HdOk hd i j t.keys) :
    NodeAt H (upd H'' p (.tup (hd ++ [.ref l, .ref r]))) p (e + 1) i := by
  obtain ⟨oB, hB⟩ := hB
  have hB1 : upd H l ol B = some oB := by rw [upd_ne hlB.symm]; exact hB
  have hl2 : H'' l = some (.lst vs) := g2.ext _ _ hlB hl
  have s3 : Same H'' (upd H'' p (.tup (hd ++ [.ref l, .ref r]))) := same_new hp _
  have hp0 : H p = none := (g.trans g2).dom p hp
  obtain ⟨ws, hr1, hr2⟩ := hr
  have sd : Same (fr H' H'') (fr H (upd H'' p (.tup (hd ++ [.ref l, .ref r])))) := Same.trans (fr_dom g.dom) (fr_same s3)
  refine ⟨hd, t, o, ⟨p, [], l, vs, r, ws, rfl, by rw [fr_new hp0]; exact upd_same, ?_, ?_, sd _ _ hr1, Nodes.same sd hr2, rfl⟩, ⟨rfl, ⟨e, j, rfl, hh, hg, go⟩, trivial⟩, ?_⟩
  · rw [fr_new hl0]
    exact s3 _ _ hl2
  · exact Nodes.same (Same.trans (fr_go hB1 g2) (Same.trans (fr_dom fun c hc => upd_none hc) (fr_same s3))) hn
  · show 1 + t.sz + o.sz + 0 ≤ 10 + 30 * nodeW e
    have e1 : msgW e = 3 * nodeW e := rfl
    rw [e1] at hs so
    omega
section
variable {P : Program} {w : World} {K : PySem.W.Frag} {mg : Str → Option Value} {base : Heap}
theorem args_m (B : Addr) (e : Nat) (i : Bool) : [V.ref B, V.int (((e + 1 : Nat) : Int) - 1), V.bl i] = [V.ref B, V.int (e : Int), V.bl i] := by
  rw [show ((e + 1 : Nat) : Int) - 1 = (e : Int) by omega]
theorem cas_len : ∀ (t : T) (d : Nat) (j : Bool), Gd t true d j → t.len = t.keys.length := by
  intro t
  induction t with
  | cas k m r _ ih => intro d j h; simp [T.len, T.keys, ih d j h.2.2]
  | nil => intro d j h; rfl
  | _ => intro d j h; cases h.1
theorem ok_sel {k e : Nat} {f fD fM : Addr} {fd fdD fdM : FuncData} (hk : 1 ≤ k) (F : Fun K "_law_select" "_law_select" sSel f fd)
    (GD : FnOk P w K mg base CX0 1 fD fdD ["box", "many"] spDraw) (bD : Binds K fdD ["box", "many"] []) (kD : PySem.W.keepIn K (.ref fD) = true) (mD : mg "_law_draw" = some (.ref fD))
    (GM : FnOk P w K mg base CX0 k fM fdM ["box", "depth", "inside"] (spMsg e)) (bM : Binds K fdM ["box", "depth", "inside"] []) (kM : PySem.W.keepIn K (.ref fM) = true) (mM : mg "_law_message" = some (.ref fM)) :
    FnOk P w K mg base CX0 (k + 1) f fd ["box", "depth", "inside"] (spSel (e + 1)) := by
  refine F.ok scSel (fun vs H Q E h => ?_) (fun cdv A outer s H vs Q E hr h => ?_)
  · obtain ⟨B, b, i, _, _, rfl, _⟩ := h
    rfl
  obtain ⟨B, b, ins, _, _, rfl, hb, q⟩ := h
  have nd := scSel.nd
  have hr1 : Room 1 _ := hr.mono hk
  refine ⟨_, pss_cons (ps_set (i := 3) nd rfl (.inl rfl) (pe_lst pa_nil))
    (pss_cons (ps_for PassesOwn.never rfl (pi_list (pe_lst (pa_cons pe_str (pa_cons pe_str (pa_cons pe_str pa_nil))))) (pg_name (i := 4) nd rfl (.inl rfl))
      (pss_one (ps_if (pt_cmpR op_eq (pe_call GD hr1 rfl mD kD bD .nil pass0 (pa_cons (pv 0) (pa_cons pe_int pa_nil))) pe_int (nomark _))
        (pss_one (ps_expr (pe_bm PySem.F.plainAttrs_list PySem.F.slot_list_append PySem.F.type_list_append mt_append (pv 3) (pa_cons (pe_tup (pa_cons (pv 4) (pa_cons (pe_call GM hr rfl mM kM bM .nil pass0 (pa_cons (pv 0) (pa_cons (pe_op op_sub (pv 1) pe_int) (pa_cons (pv 2) pa_nil)))) pa_nil))) pa_nil)))) pss_nil)))
    (pss_one (ps_ret (pe_tup (pa_cons pe_str (pa_cons (pe_ix ix_list (pe_lst (pa_cons pe_str (pa_cons pe_str pa_nil))) (pe_call GD hr1 rfl mD kD bD .nil pass0 (pa_cons (pv 0) (pa_cons pe_int pa_nil))) (fun _ _ => rfl)) (pa_cons (pv 3) (pa_cons (pe_call GM hr rfl mM kM bM .nil pass0 (pa_cons (pv 0) (pa_cons (pe_op op_sub (pv 1) pe_int) (pa_cons (pv 2) pa_nil)))) pa_nil)))))))), ?_⟩
  refine ⟨Nat.zero_le _, fun l hl => ?_⟩
  have hlB := hb.neB hl
  have hlb := hb.neD hl
  have hBs := hb.isB
  have hB1 : ∃ o, upd H l (HO.lst []) B = some o := by
    obtain ⟨o, h⟩ := hBs
    exact ⟨o, by rw [upd_ne hlB.symm]; exact h⟩
  refine ⟨by show 3 ≤ sizeLine; decide, fun wl hwl => ?_⟩
  have hb1 := hb.new hl (.lst [])
  have hwB := hb1.neB hwl
  have hwl' : wl ≠ l := by
    rintro rfl
    rw [upd_same] at hwl
    cases hwl
  refine ⟨wl, rfl, ⟨_, SqL.of upd_same⟩, for_list (xs := skeys) (fun i σ H' => ∃ o4, σ = [some (.ref B), some (.int ((e + 1 : Nat) : Int)), some (.bl ins), some (.ref l), o4] ∧ CasInv B b l wl H (upd H l (.lst [])) skeys e ins i H')
    ⟨none, rfl, [], .nil, (Go.new hl _).trans (Go.new hwl _), hb1.new hwl _, upd_same, by rw [upd_ne hwl'.symm]; exact upd_same, rfl, trivial, List.nil_sublist _, Nat.zero_le _⟩
    (fun i σ H' _ ⟨_, _, _, _, _, _, hw, _⟩ => SqL.of hw) ?_ ?_⟩
  · rintro i x σ H' hx ⟨o4, rfl, I⟩
    obtain ⟨vs0, t0, _, hbI, _⟩ := id I
    refine ⟨_, rfl, B, b, 3, rfl, by decide, hbI, fun z H3 z0 z3 g3 hb3 => ?_⟩
    have I3 := I.skip hlB hwB hB1 g3 hb3
    refine ⟨rfl, _, rfl, ite2 (fun c => ?_) (fun c => ?_)⟩
    · obtain ⟨vs, t, g1, _, hw, hl3, hn, hg, hks, hs⟩ := I3
      have hi3 : i < 3 := (List.getElem?_eq_some_iff.mp hx).1
      have hvs : vs.length < 1000 := by
        rw [hn.length]
        rw [cas_len t e ins hg]
        have := hks.length_le
        rw [List.length_take] at this
        omega
      refine ⟨_, rfl, .inl ⟨rfl, _, SqL.of hl3⟩, _, rfl, _, rfl, _, rfl, _, _, rfl, rfl, _, rfl, B, b, ins, args_m B e ins, hb3, fun r H4 m g4 hb4 hr4 gm sm _ => ?_⟩
      refine ⟨by show 2 ≤ sizeLine; decide, fun p hp => ?_⟩
      have hl4 : H4 l = some (.lst vs) := g4.ext _ _ hlB hl3
      refine ⟨l, _, _, rfl, rfl, (by rw [upd_ne (ne_of_none hl4 hp)]; exact hl4), sz_line (by omega), ?_⟩
      exact ⟨_, rfl, CasInv.grow hl hlB hlb hwl' hwB hBs g1 hl3 hw hn hg hs hks hx g4 hb4 hr4 gm sm hp⟩
    · exact ⟨_, rfl, I3.next⟩
  · rintro σ H' ⟨o4, rfl, I⟩
    obtain ⟨vs, t, g1, hb', hw, hl', hn, hg, hks, hs⟩ := I
    refine ⟨by decide, fun m hm => ?_⟩
    have hmB := hb'.neB hm
    refine ⟨_, rfl, B, b, 2, rfl, by decide, hb'.new hm _, fun z H3 z0 z2 g3 hb3 => ?_⟩
    obtain ⟨x, hx, ha⟩ := pickL (l := ["w", "kind"]) z0 (by show z < ((2 : Nat) : Int); omega)
    refine ⟨m, _, z, .str x, rfl, rfl, SqL.of (g3.ext _ _ hmB upd_same), ha, ?_⟩
    refine ⟨_, rfl, _, rfl, _, rfl, _, _, rfl, rfl, _, rfl, B, b, ins, args_m B e ins, hb3, fun r H4 o g4 hb4 hr4 go so _ => ?_⟩
    have g34 : Go B H' H3 := (Go.new hm _).trans g3
    refine ⟨by show 4 ≤ sizeLine; decide, fun p hp => ?_⟩
    refine q p _ ((g1.trans (g34.trans g4)).trans (Go.new hp _)) (hb4.new hp _) ?_
    have hl3 : H3 l = some (.lst vs) := g34.ext _ _ hlB hl'
    obtain ⟨oB, hB1'⟩ := hB1
    have sk : t.keys.Sublist skeys := by
      have : skeys.take skeys.length = skeys := List.take_length
      rw [this] at hks
      exact hks
    have hs9 : t.sz ≤ 9 * (1 + msgW e) := Nat.le_trans hs (Nat.mul_le_mul_right _ (by decide))
    exact cho_end (hd := [.str "select", .str x]) hl hlB hBs (g1.trans g34) hl3 (Nodes.same (fr_go hB1' g34) hn) hg hs9 g4 hr4 go so hp (.sel (by simpa using hx) sk)
end
end Mw

namespace Mw
open PySem L2
/-- cases backwards -/
def T.rev : T → T
  | .cas k m r => r.rev.app (.cas k m .nil)
  | _ => .nil
theorem Gd.rev {e : Nat} {j : Bool} : ∀ {t : T}, Gd t true e j → Gd t.rev true e j ∧ t.rev.keys = t.keys.reverse ∧ t.rev.sz = t.sz ∧ ∀ {H : Hp} {vs : List V}, Nodes H t vs → Nodes H t.rev vs.reverse
  | .nil, _ => ⟨trivial, rfl, rfl, fun {H vs} h => by
    have h' : vs = [] := h
    subst h'
    exact rfl⟩
  | .text _ _, h => by cases h.1
  | .shw _ _, h => by cases h.1
  | .num _, h => by cases h.1
  | .cho _ _ _ _, h => by cases h.1
  | .cas k m r, h => by
    obtain ⟨i1, i2, i3, i4⟩ := Gd.rev h.2.2
    refine ⟨Gd.app (show Gd (.cas k m .nil) true e j from ⟨rfl, h.2.1, trivial⟩) i1 fun _ => rfl, ?_, ?_, fun {H vs} hn => ?_⟩
    · show (r.rev.app (.cas k m .nil)).keys = (k :: r.keys).reverse
      rw [T.app_keys k m .nil r.rev e j i1, i2, List.reverse_cons]
      rfl
    · show (r.rev.app (.cas k m .nil)).sz = 1 + m.sz + r.sz
      rw [T.app_sz, i3]
      simp [T.sz]
      omega
    · obtain ⟨p, ws, ma, mvs, rfl, hp, hm, hms, hr⟩ := hn
      rw [List.reverse_cons]
      exact Nodes.app (show Nodes H (.cas k m .nil) [.ref p] from ⟨p, [], ma, mvs, rfl, hp, hm, hms, rfl⟩) (i4 hr)
section
variable {P : Program} {w : World} {K : PySem.W.Frag} {mg : Str → Option Value} {base : Heap}
theorem args_p (B : Addr) (e : Nat) : [V.ref B, V.int (((e + 1 : Nat) : Int) - 1), V.bl true] = [V.ref B, V.int (e : Int), V.bl true] := args_m B e true
theorem ok_plu {k e : Nat} {f fD fM : Addr} {fd fdD fdM : FuncData} (hk : 1 ≤ k) (F : Fun K "_law_plural" "_law_plural" sPlu f fd)
    (GD : FnOk P w K mg base CX0 1 fD fdD ["box", "many"] spDraw) (bD : Binds K fdD ["box", "many"] []) (kD : PySem.W.keepIn K (.ref fD) = true) (mD : mg "_law_draw" = some (.ref fD))
    (GM : FnOk P w K mg base CX0 k fM fdM ["box", "depth", "inside"] (spMsg e)) (bM : Binds K fdM ["box", "depth", "inside"] []) (kM : PySem.W.keepIn K (.ref fM) = true) (mM : mg "_law_message" = some (.ref fM)) :
    FnOk P w K mg base CX0 (k + 1) f fd ["box", "depth"] (spPlu (e + 1)) := by
  refine F.ok scPlu (fun vs H Q E h => ?_) (fun cdv A outer s H vs Q E hr h => ?_)
  · obtain ⟨B, b, _, _, rfl, _⟩ := h
    rfl
  obtain ⟨B, b, _, _, rfl, hb, q⟩ := h
  have nd := scPlu.nd
  have hr1 : Room 1 _ := hr.mono hk
  refine ⟨_, pss_cons (ps_set (i := 2) nd rfl (.inl rfl) (pe_lst pa_nil))
    (pss_cons (ps_for PassesOwn.never rfl (pi_list (pe_lst (pa_cons pe_int (pa_cons pe_int (pa_cons pe_int (pa_cons pe_int (pa_cons pe_str (pa_cons pe_str (pa_cons pe_str (pa_cons pe_str (pa_cons pe_str pa_nil))))))))))) (pg_name (i := 3) nd rfl (.inl rfl))
      (pss_one (ps_if (pt_cmpR op_eq (pe_call GD hr1 rfl mD kD bD .nil pass0 (pa_cons (pv 0) (pa_cons pe_int pa_nil))) pe_int (nomark _))
        (pss_one (ps_expr (pe_bm PySem.F.plainAttrs_list PySem.F.slot_list_append PySem.F.type_list_append mt_append (pv 2) (pa_cons (pe_tup (pa_cons (pv 3) (pa_cons (pe_call GM hr rfl mM kM bM .nil pass0 (pa_cons (pv 0) (pa_cons (pe_op op_sub (pv 1) pe_int) (pa_cons pe_bl pa_nil)))) pa_nil))) pa_nil)))) pss_nil)))
    (Evl.pss_cut (ps_if (pt_cmpR op_eq (pe_call GD hr1 rfl mD kD bD .nil pass0 (pa_cons (pv 0) (pa_cons pe_int pa_nil))) pe_int (nomark _))
        (pss_one (ps_expr (pe_bm0 PySem.F.plainAttrs_list PySem.F.slot_list_reverse PySem.F.type_list_reverse mt_reverse (pv 2)))) pss_nil)
    (pss_one (ps_ret (pe_tup (pa_cons pe_str (pa_cons (pe_ix ix_list (pe_lst (pa_cons pe_str (pa_cons pe_str pa_nil))) (pe_call GD hr1 rfl mD kD bD .nil pass0 (pa_cons (pv 0) (pa_cons pe_int pa_nil))) (fun _ _ => rfl))
      (pa_cons (pe_ix ix_list (pe_lst (pa_cons pe_int (pa_cons pe_int (pa_cons pe_int (pa_cons pe_int pa_nil))))) (pe_call GD hr1 rfl mD kD bD .nil pass0 (pa_cons (pv 0) (pa_cons pe_int pa_nil))) (fun _ _ => rfl))
      (pa_cons (pv 2) (pa_cons (pe_call GM hr rfl mM kM bM .nil pass0 (pa_cons (pv 0) (pa_cons (pe_op op_sub (pv 1) pe_int) (pa_cons pe_bl pa_nil)))) pa_nil)))))))))), ?_⟩
  refine ⟨Nat.zero_le _, fun l hl => ?_⟩
  have hlB := hb.neB hl
  have hlb := hb.neD hl
  have hBs := hb.isB
  have hB1 : ∃ o, upd H l (HO.lst []) B = some o := by
    obtain ⟨o, h⟩ := hBs
    exact ⟨o, by rw [upd_ne hlB.symm]; exact h⟩
  refine ⟨by show 9 ≤ sizeLine; decide, fun wl hwl => ?_⟩
  have hb1 := hb.new hl (.lst [])
  have hwB := hb1.neB hwl
  have hwl' : wl ≠ l := by
    rintro rfl
    rw [upd_same] at hwl
    cases hwl
  refine ⟨wl, rfl, ⟨_, SqL.of upd_same⟩, for_list (xs := pkeys) (fun i σ H' => ∃ o4, σ = [some (.ref B), some (.int ((e + 1 : Nat) : Int)), some (.ref l), o4] ∧ CasInv B b l wl H (upd H l (.lst [])) pkeys e true i H')
    ⟨none, rfl, [], .nil, (Go.new hl _).trans (Go.new hwl _), hb1.new hwl _, upd_same, by rw [upd_ne hwl'.symm]; exact upd_same, rfl, trivial, List.nil_sublist _, Nat.zero_le _⟩
    (fun i σ H' _ ⟨_, _, _, _, _, _, hw, _⟩ => SqL.of hw) ?_ ?_⟩
  · rintro i x σ H' hx ⟨o4, rfl, I⟩
    obtain ⟨vs0, t0, _, hbI, _⟩ := id I
    refine ⟨_, rfl, B, b, 5, rfl, by decide, hbI, fun z H3 z0 z3 g3 hb3 => ?_⟩
    have I3 := I.skip hlB hwB hB1 g3 hb3
    refine ⟨rfl, _, rfl, ite2 (fun c => ?_) (fun c => ?_)⟩
    · obtain ⟨vs, t, g1, _, hw, hl3, hn, hg, hks, hs⟩ := I3
      have hi3 : i < 9 := (List.getElem?_eq_some_iff.mp hx).1
      have hvs : vs.length < 1000 := by
        rw [hn.length]
        rw [cas_len t e true hg]
        have := hks.length_le
        rw [List.length_take] at this
        omega
      refine ⟨_, rfl, .inl ⟨rfl, _, SqL.of hl3⟩, _, rfl, _, rfl, _, rfl, _, _, rfl, rfl, B, b, true, args_p B e, hb3, fun r H4 m g4 hb4 hr4 gm sm _ => ?_⟩
      refine ⟨by show 2 ≤ sizeLine; decide, fun p hp => ?_⟩
      have hl4 : H4 l = some (.lst vs) := g4.ext _ _ hlB hl3
      refine ⟨l, _, _, rfl, rfl, (by rw [upd_ne (ne_of_none hl4 hp)]; exact hl4), sz_line (by omega), ?_⟩
      exact ⟨_, rfl, CasInv.grow hl hlB hlb hwl' hwB hBs g1 hl3 hw hn hg hs hks hx g4 hb4 hr4 gm sm hp⟩
    · exact ⟨_, rfl, I3.next⟩
  · rintro σ H' ⟨o4, rfl, I⟩
    obtain ⟨vs0, t0, _, hbI, _⟩ := id I
    refine ⟨fun σ' H3 => ∃ o4 vs t, σ' = [some (.ref B), some (.int ((e + 1 : Nat) : Int)), some (.ref l), o4] ∧ Go B H H3 ∧ Box H3 B b ∧ H3 l = some (.lst vs) ∧ Nodes (fr (upd H l (.lst [])) H3) t vs ∧ Gd t true e true ∧ (t.keys.Sublist pkeys ∨ t.keys.Sublist pkeys.reverse) ∧ t.sz ≤ 9 * (1 + msgW e), ?_, ?_⟩
    · refine ⟨_, rfl, B, b, 3, rfl, by decide, hbI, fun z H3 z0 z3 g3 hb3 => ?_⟩
      obtain ⟨vs, t, g1, _, hw, hl', hn, hg, hks, hs⟩ := I.skip hlB hwB hB1 g3 hb3
      have sk : t.keys.Sublist pkeys := by
        have : pkeys.take pkeys.length = pkeys := List.take_length
        rw [this] at hks
        exact hks
      have hs9 : t.sz ≤ 9 * (1 + msgW e) := hs
      refine ⟨rfl, _, rfl, ite2 (fun c => ?_) (fun c => ?_)⟩
      · refine ⟨_, rfl, .inl ⟨rfl, _, SqL.of hl'⟩, l, _, rfl, rfl, hl', ?_⟩
        obtain ⟨r1, r2, r3, r4⟩ := Gd.rev hg
        refine ⟨_, vs.reverse, t.rev, rfl, g1.mut hl _, hb3.mut hlB hlb _, upd_same, Nodes.same (fr_mut upd_same _) (r4 hn), r1, .inr ?_, by rw [r3]; exact hs9⟩
        rw [r2]
        exact sk.reverse
      · exact ⟨_, vs, t, rfl, g1, hb3, hl', hn, hg, .inl sk, hs9⟩
    · rintro σ' H2 ⟨o4, vs, t, rfl, g1, hb', hl', hn, hg, hks, hs9⟩
      refine ⟨by decide, fun m hm => ?_⟩
      have hmB := hb'.neB hm
      refine ⟨_, rfl, B, b, 2, rfl, by decide, hb'.new hm _, fun z H3 z0 z2 g3 hb3 => ?_⟩
      obtain ⟨x, hx, ha⟩ := pickL (l := ["n", "count"]) z0 (by show z < ((2 : Nat) : Int); omega)
      refine ⟨m, _, z, .str x, rfl, rfl, SqL.of (g3.ext _ _ hmB upd_same), ha, ?_⟩
      have g23 : Go B H2 H3 := (Go.new hm _).trans g3
      refine ⟨by decide, fun m' hm' => ?_⟩
      have hmB' := hb3.neB hm'
      refine ⟨_, rfl, B, b, 4, rfl, by decide, hb3.new hm' _, fun z' H4 z0' z2' g4 hb4 => ?_⟩
      obtain ⟨y, hy, ha'⟩ := pick (l := ([0, 0, 1, 2] : List Int)) (g := V.int) z0' (by show z' < ((4 : Nat) : Int); omega)
      refine ⟨m', _, z', .int y, rfl, rfl, SqL.of (g4.ext _ _ hmB' upd_same), ha', ?_⟩
      have g24 : Go B H2 H4 := g23.trans ((Go.new hm' _).trans g4)
      refine ⟨_, rfl, _, rfl, _, rfl, _, _, rfl, rfl, B, b, true, args_p B e, hb4, fun r H5 o g5 hb5 hr5 go so _ => ?_⟩
      refine ⟨by show 5 ≤ sizeLine; decide, fun p hp => ?_⟩
      refine q p _ ((g1.trans (g24.trans g5)).trans (Go.new hp _)) (hb5.new hp _) fun i => ?_
      have hl3 : H4 l = some (.lst vs) := g24.ext _ _ hlB hl'
      obtain ⟨oB, hB1'⟩ := hB1
      exact cho_end (hd := [.str "plural", .str x, .int y]) (i := i) hl hlB hBs (g1.trans g24) hl3 (Nodes.same (fr_go hB1' g24) hn) hg hs9 g5 hr5 go so hp (.plu (by simpa using hx) (by simpa using hy) hks)
end
end Mw

namespace Mw
open PySem L2
/-! ### nodes one by one -/
def HdW (hd : List V) : Prop := (∃ n, hd = [.str "select", .str n]) ∨ ∃ n off, hd = [.str "plural", .str n, .int off]
def KeyW (k : V) : Prop := (∃ s, k = .str s) ∨ ∃ i, k = .int i
/-- what any message is, and any chain of cases (c) -/
def Wf : T → Bool → Prop
  | .nil, _ => True
  | .text _ r, c => c = false ∧ Wf r c
  | .shw _ r, c => c = false ∧ Wf r c
  | .num r, c => c = false ∧ Wf r c
  | .cho hd cs o r, c => c = false ∧ HdW hd ∧ Wf cs true ∧ Wf o false ∧ Wf r c
  | .cas k m r, c => c = true ∧ KeyW k ∧ Wf m false ∧ Wf r c
def T.single : T → Prop
  | .nil => False
  | .text _ r => r = .nil
  | .shw _ r => r = .nil
  | .num r => r = .nil
  | .cho _ _ _ r => r = .nil
  | .cas _ _ r => r = .nil
def T.isCho : T → Bool
  | .cho _ _ _ _ => true
  | _ => false
def T.isText : T → Bool
  | .text _ _ => true
  | _ => false
def T.nodes : T → List T
  | .nil => []
  | .text s r => .text s .nil :: r.nodes
  | .shw n r => .shw n .nil :: r.nodes
  | .num r => .num .nil :: r.nodes
  | .cho hd cs o r => .cho hd cs o .nil :: r.nodes
  | .cas k m r => .cas k m .nil :: r.nodes
def T.msgs : T → List T
  | .cas _ m r => m :: r.msgs
  | _ => []
def T.inner : T → List T
  | .cho _ cs o _ => cs.msgs ++ [o]
  | _ => []
def Ns (H : Hp) : List T → List V → Prop
  | [], vs => vs = []
  | u :: us, vs => ∃ v ws, vs = v :: ws ∧ Nodes H u [v] ∧ Ns H us ws
def Ats (H : Hp) : List T → List V → Prop
  | [], vs => vs = []
  | t :: ts, vs => ∃ a ws, vs = .ref a :: ws ∧ At H a t ∧ Ats H ts ws
theorem At.same {H H' : Hp} {a : Addr} {t : T} (s : Same H H') (h : At H a t) : At H' a t := by
  obtain ⟨vs, h1, h2⟩ := h
  exact ⟨vs, s _ _ h1, Nodes.same s h2⟩
theorem Ns.same {H H' : Hp} (s : Same H H') : ∀ {us : List T} {vs : List V}, Ns H us vs → Ns H' us vs
  | [], _, h => h
  | u :: us, _, h => by
    obtain ⟨v, ws, rfl, h1, h2⟩ := h
    exact ⟨v, ws, rfl, Nodes.same s h1, Ns.same s h2⟩
theorem Ats.same {H H' : Hp} (s : Same H H') : ∀ {us : List T} {vs : List V}, Ats H us vs → Ats H' us vs
  | [], _, h => h
  | u :: us, _, h => by
    obtain ⟨v, ws, rfl, h1, h2⟩ := h
    exact ⟨v, ws, rfl, h1.same s, Ats.same s h2⟩
theorem Ns.length {H : Hp} : ∀ {us : List T} {vs : List V}, Ns H us vs → vs.length = us.length
  | [], _, h => by rw [show _ = [] from h]; rfl
  | u :: us, _, h => by
    obtain ⟨v, ws, rfl, _, h2⟩ := h
    exact congrArg (· + 1) h2.length
theorem Ats.length {H : Hp} : ∀ {us : List T} {vs : List V}, Ats H us vs → vs.length = us.length
  | [], _, h => by rw [show _ = [] from h]; rfl
  | u :: us, _, h => by
    obtain ⟨v, ws, rfl, _, h2⟩ := h
    exact congrArg (· + 1) h2.length
theorem Ns.append {H : Hp} {us' : List T} {vs' : List V} (h' : Ns H us' vs') : ∀ {us : List T} {vs : List V}, Ns H us vs → Ns H (us ++ us') (vs ++ vs')
  | [], _, h => by rw [show _ = [] from h]; exact h'
  | u :: us, _, h => by
    obtain ⟨v, ws, rfl, h1, h2⟩ := h
    exact ⟨v, ws ++ vs', rfl, h1, Ns.append h' h2⟩
theorem Ats.append {H : Hp} {us' : List T} {vs' : List V} (h' : Ats H us' vs') : ∀ {us : List T} {vs : List V}, Ats H us vs → Ats H (us ++ us') (vs ++ vs')
  | [], _, h => by rw [show _ = [] from h]; exact h'
  | u :: us, _, h => by
    obtain ⟨v, ws, rfl, h1, h2⟩ := h
    exact ⟨v, ws ++ vs', rfl, h1, Ats.append h' h2⟩
theorem Ns.get {H : Hp} : ∀ {us : List T} {vs : List V} {i : Nat} {v : V}, Ns H us vs → vs[i]? = some v → ∃ u, us[i]? = some u ∧ Nodes H u [v]
  | [], _, i, v, h, e => by
    rw [show _ = [] from h] at e
    simp at e
  | u :: us, _, 0, v, h, e => by
    obtain ⟨x, ws, rfl, h1, h2⟩ := h
    have : x = v := by simpa using e
    subst this
    exact ⟨u, rfl, h1⟩
  | u :: us, _, i + 1, v, h, e => by
    obtain ⟨x, ws, rfl, h1, h2⟩ := h
    obtain ⟨u', e1, e2⟩ := Ns.get (i := i) h2 (by simpa using e)
    exact ⟨u', by simpa using e1, e2⟩
theorem Ats.get {H : Hp} : ∀ {us : List T} {vs : List V} {i : Nat} {v : V}, Ats H us vs → vs[i]? = some v → ∃ u a, us[i]? = some u ∧ v = .ref a ∧ At H a u
  | [], _, i, v, h, e => by
    rw [show _ = [] from h] at e
    simp at e
  | u :: us, _, 0, v, h, e => by
    obtain ⟨x, ws, rfl, h1, h2⟩ := h
    have : V.ref x = v := by simpa using e
    subst this
    exact ⟨u, x, rfl, rfl, h1⟩
  | u :: us, _, i + 1, v, h, e => by
    obtain ⟨x, ws, rfl, h1, h2⟩ := h
    obtain ⟨u', a, e1, e2⟩ := Ats.get (i := i) h2 (by simpa using e)
    exact ⟨u', a, by simpa using e1, e2⟩
theorem Nodes.ns {H : Hp} : ∀ {t : T} {vs : List V}, Nodes H t vs → Ns H t.nodes vs
  | .nil, _, h => h
  | .text s r, _, h => by
    obtain ⟨p, ws, rfl, hp, hr⟩ := h
    exact ⟨_, ws, rfl, ⟨p, [], rfl, hp, rfl⟩, Nodes.ns hr⟩
  | .shw n r, _, h => by
    obtain ⟨p, ws, rfl, hp, hr⟩ := h
    exact ⟨_, ws, rfl, ⟨p, [], rfl, hp, rfl⟩, Nodes.ns hr⟩
  | .num r, _, h => by
    obtain ⟨p, ws, rfl, hp, hr⟩ := h
    exact ⟨_, ws, rfl, ⟨p, [], rfl, hp, rfl⟩, Nodes.ns hr⟩
  | .cho hd cs o r, _, h => by
    obtain ⟨p, ws, ca, cvs, oa, ovs, rfl, hp, hc, hcs, ho, hos, hr⟩ := h
    exact ⟨_, ws, rfl, ⟨p, [], ca, cvs, oa, ovs, rfl, hp, hc, hcs, ho, hos, rfl⟩, Nodes.ns hr⟩
  | .cas k m r, _, h => by
    obtain ⟨p, ws, ma, mvs, rfl, hp, hm, hms, hr⟩ := h
    exact ⟨_, ws, rfl, ⟨p, [], ma, mvs, rfl, hp, hm, hms, rfl⟩, Nodes.ns hr⟩
theorem Ns.nodes {H : Hp} : ∀ {t : T} {vs : List V}, Ns H t.nodes vs → Nodes H t vs
  | .nil, _, h => h
  | .text s r, _, h => by
    obtain ⟨v, ws, rfl, ⟨p, _, e, hp, _⟩, hr⟩ := h
    cases e
    exact ⟨p, ws, rfl, hp, Ns.nodes hr⟩
  | .shw n r, _, h => by
    obtain ⟨v, ws, rfl, ⟨p, _, e, hp, _⟩, hr⟩ := h
    cases e
    exact ⟨p, ws, rfl, hp, Ns.nodes hr⟩
  | .num r, _, h => by
    obtain ⟨v, ws, rfl, ⟨p, _, e, hp, _⟩, hr⟩ := h
    cases e
    exact ⟨p, ws, rfl, hp, Ns.nodes hr⟩
  | .cho hd cs o r, _, h => by
    obtain ⟨v, ws, rfl, ⟨p, _, ca, cvs, oa, ovs, e, hp, hc, hcs, ho, hos, _⟩, hr⟩ := h
    cases e
    exact ⟨p, ws, ca, cvs, oa, ovs, rfl, hp, hc, hcs, ho, hos, Ns.nodes hr⟩
  | .cas k m r, _, h => by
    obtain ⟨v, ws, rfl, ⟨p, _, ma, mvs, e, hp, hm, hms, _⟩, hr⟩ := h
    cases e
    exact ⟨p, ws, ma, mvs, rfl, hp, hm, hms, Ns.nodes hr⟩
/-- a node of a message: what its tuple begins with -/
theorem node_of {H : Hp} {u : T} {v : V} (h : Nodes H u [v]) (w : Wf u false) : ∃ p x xs, v = .ref p ∧ H p = some (.tup (.str x :: xs)) ∧ u.single ∧
    ((x = "select" ∨ x = "plural") ↔ u.isCho = true) ∧ (x = "text" ↔ u.isText = true) := by
  cases u with
  | nil => cases (show [v] = [] from h)
  | text s r =>
    obtain ⟨p, ws, e, hp, hr⟩ := h
    cases e
    have : r = .nil := by
      have := hr.length
      cases r <;> first | rfl | (simp [T.len] at this)
    exact ⟨p, _, _, rfl, hp, this, by simp [T.isCho]; decide, by simp [T.isText]⟩
  | shw n r =>
    obtain ⟨p, ws, e, hp, hr⟩ := h
    cases e
    have : r = .nil := by
      have := hr.length
      cases r <;> first | rfl | (simp [T.len] at this)
    exact ⟨p, _, _, rfl, hp, this, by simp [T.isCho]; decide, by simp [T.isText]; decide⟩
  | num r =>
    obtain ⟨p, ws, e, hp, hr⟩ := h
    cases e
    have : r = .nil := by
      have := hr.length
      cases r <;> first | rfl | (simp [T.len] at this)
    exact ⟨p, _, _, rfl, hp, this, by simp [T.isCho]; decide, by simp [T.isText]; decide⟩
  | cho hd cs o r =>
    obtain ⟨p, ws, ca, cvs, oa, ovs, e, hp, _, _, _, _, hr⟩ := h
    cases e
    have : r = .nil := by
      have := hr.length
      cases r <;> first | rfl | (simp [T.len] at this)
    rcases w.2.1 with ⟨n, rfl⟩ | ⟨n, off, rfl⟩
    · exact ⟨p, _, _, rfl, hp, this, by simp [T.isCho], by simp [T.isText]; decide⟩
    · exact ⟨p, _, _, rfl, hp, this, by simp [T.isCho], by simp [T.isText]; decide⟩
  | cas k m r => cases w.1
theorem Nodes.msgs {H : Hp} : ∀ {t : T} {vs : List V}, Nodes H t vs → Wf t true → ∃ ms, Ats H t.msgs ms ∧ vs.length = ms.length ∧ ∀ (i : Nat) (v : V), vs[i]? = some v → ∃ (p : Addr) (k : V) (a : Addr), v = V.ref p ∧ H p = some (.tup [k, .ref a]) ∧ ms[i]? = some (V.ref a)
  | .nil, _, h, _ => ⟨[], rfl, by rw [show _ = [] from h], fun i v e => by rw [show _ = [] from h] at e; simp at e⟩
  | .text s r, _, h, w => by cases w.1
  | .shw n r, _, h, w => by cases w.1
  | .num r, _, h, w => by cases w.1
  | .cho hd cs o r, _, h, w => by cases w.1
  | .cas k m r, _, h, w => by
    obtain ⟨p, ws, ma, mvs, rfl, hp, hm, hms, hr⟩ := h
    obtain ⟨ms, h1, h2, h3⟩ := Nodes.msgs hr w.2.2.2
    refine ⟨.ref ma :: ms, ⟨ma, ms, rfl, ⟨mvs, hm, hms⟩, h1⟩, congrArg (· + 1) h2, fun i v e => ?_⟩
    cases i with
    | zero =>
      have : V.ref p = v := by simpa using e
      subst this
      exact ⟨p, k, ma, rfl, hp, rfl⟩
    | succ i =>
      obtain ⟨q, k', a, e1, e2, e3⟩ := h3 i v (by simpa using e)
      exact ⟨q, k', a, e1, e2, by simpa using e3⟩
end Mw

namespace Mw
open PySem L2
theorem atI_m1 {α : Type} (xs : List α) (a b : α) : atI (xs ++ [a, b]) (-1) = some b := by
  rw [show xs ++ [a, b] = (xs ++ [a]) ++ [b] by simp]
  exact atI_last _ _
theorem atI_m2 {α : Type} (xs : List α) (a b : α) : atI (xs ++ [a, b]) (-2) = some a := by
  unfold atI ixN
  have hl : (xs ++ [a, b]).length = xs.length + 2 := by simp
  rw [if_neg (by decide), if_pos (by rw [hl]; omega), hl]
  show (xs ++ [a, b])[((-2 : Int) + ((xs.length + 2 : Nat) : Int)).toNat]? = some a
  rw [show ((-2 : Int) + ((xs.length + 2 : Nat) : Int)).toNat = xs.length by omega]
  rw [List.getElem?_append_right (Nat.le_refl _), Nat.sub_self]
  rfl
section
variable {P : Program} {w : World} {K : PySem.W.Frag} {mg : Str → Option Value} {base : Heap}
/-! ### is_choice -/
abbrev sIs : Stmt := top 5
theorem scIs : FnScope ["node"] ["node"] (defScope sIs) := ⟨rfl, rfl, rfl, by decide +kernel, rfl, by decide +kernel, by decide +kernel⟩
def spIs : Sp := fun vs H Q _ => ∃ (v : V) (u : T), vs = [v] ∧ Nodes H u [v] ∧ Wf u false ∧ ∀ H', Same H H' → Q (.bl u.isCho) H'
theorem in_two (x a b : Str) : inV (.str x) [.str a, .str b] = decide (x = a ∨ x = b) := by
  have h : ∀ c d : Str, (c == d) = decide (d = c) := fun c d => by
    by_cases e : d = c
    · subst e
      simp
    · rw [decide_eq_false e]
      exact beq_eq_false_iff_ne.mpr fun z => e z.symm
  unfold inV
  simp only [List.any_cons, List.any_nil, Bool.or_false, eqV, h]
  exact (Bool.decide_or _ _).symm
theorem ok_is {f : Addr} {fd : FuncData} (F : Fun K "is_choice" "is_choice" sIs f fd) : FnOk P w K mg base CX0 1 f fd ["node"] spIs := by
  refine F.ok scIs (fun vs H Q E h => ?_) (fun cdv A outer s H vs Q E hr h => ?_)
  · obtain ⟨v, u, rfl, _⟩ := h
    rfl
  obtain ⟨v, u, rfl, hn, hw, q⟩ := h
  obtain ⟨p, x, xs, rfl, hp, _, hc, _⟩ := node_of hn hw
  refine ⟨_, pss_one (ps_ret (pe_cmpR op_in_seq (pe_ix ix_tup (pv 0) pe_int (fun _ _ => rfl)) (pe_tup (pa_cons pe_str (pa_cons pe_str pa_nil))) (by rfl))), ?_⟩
  refine ⟨_, rfl, p, _, 0, .str x, rfl, rfl, .inl (.inl hp), atI_nat (j := 0) rfl, by show 2 ≤ sizeLine; decide, fun t ht => ⟨t, _, rfl, .inr (.inl (.inl upd_same)), rfl, rfl, ?_⟩⟩
  have e : inV (V.str x) [.str "select", .str "plural"] = u.isCho := by
    rw [in_two]
    cases hu : u.isCho with
    | true => exact decide_eq_true (hc.mpr hu)
    | false => exact decide_eq_false fun z => by rw [hc.mp z] at hu; cases hu
  show Q (.bl (inV (V.str x) [.str "select", .str "plural"])) _
  rw [e]
  exact q _ (same_new ht _)
/-! ### cases_of, other_of -/
abbrev sCases : Stmt := top 6
abbrev sOther : Stmt := top 7
theorem scCases : FnScope ["node"] ["node"] (defScope sCases) := ⟨rfl, rfl, rfl, by decide +kernel, rfl, by decide +kernel, by decide +kernel⟩
theorem scOther : FnScope ["node"] ["node"] (defScope sOther) := ⟨rfl, rfl, rfl, by decide +kernel, rfl, by decide +kernel, by decide +kernel⟩
def spCases : Sp := fun vs H Q _ => ∃ (p ca oa : Addr) (hd cvs : List V), vs = [.ref p] ∧ H p = some (.tup (hd ++ [.ref ca, .ref oa])) ∧ H ca = some (.lst cvs) ∧ ∀ l, H l = none → Q (.ref l) (upd H l (.lst cvs))
def spOther : Sp := fun vs H Q _ => ∃ (p ca oa : Addr) (hd : List V), vs = [.ref p] ∧ H p = some (.tup (hd ++ [.ref ca, .ref oa])) ∧ Q (.ref oa) H
theorem ok_cases {f : Addr} {fd : FuncData} (F : Fun K "cases_of" "cases_of" sCases f fd) (ml : mg "list" = none) : FnOk P w K mg base CX0 1 f fd ["node"] spCases := by
  refine F.ok scCases (fun vs H Q E h => ?_) (fun cdv A outer s H vs Q E hr h => ?_)
  · obtain ⟨p, ca, oa, hd, cvs, rfl, _⟩ := h
    rfl
  obtain ⟨p, ca, oa, hd, cvs, rfl, hp, hc, q⟩ := h
  refine ⟨_, pss_one (ps_ret (pe_callTy call_list_of (by rfl) ml (by decide +kernel) (pa_cons (pe_ix ix_tup (pv 0) (pe_un un_neg pe_int) (fun _ _ => rfl)) pa_nil))), ?_⟩
  exact ⟨_, rfl, 2, rfl, p, _, -2, .ref ca, rfl, rfl, .inl (.inl hp), atI_m2 _ _ _, ca, _, rfl, .inl (SqL.of hc), q⟩
theorem ok_other {f : Addr} {fd : FuncData} (F : Fun K "other_of" "other_of" sOther f fd) : FnOk P w K mg base CX0 1 f fd ["node"] spOther := by
  refine F.ok scOther (fun vs H Q E h => ?_) (fun cdv A outer s H vs Q E hr h => ?_)
  · obtain ⟨p, ca, oa, hd, rfl, _⟩ := h
    rfl
  obtain ⟨p, ca, oa, hd, rfl, hp, q⟩ := h
  refine ⟨_, pss_one (ps_ret (pe_ix ix_tup (pv 0) (pe_un un_neg pe_int) (fun _ _ => rfl))), ?_⟩
  exact ⟨_, rfl, 1, rfl, p, _, -1, .ref oa, rfl, rfl, .inl (.inl hp), atI_m1 _ _ _, q⟩
/-! ### inner_messages -/
abbrev sInner : Stmt := top 8
theorem scInner : FnScope ["node", "_", "message"] ["node"] (defScope sInner) := ⟨rfl, rfl, rfl, by decide +kernel, rfl, by decide +kernel, by decide +kernel⟩
def spInner : Sp := fun vs H Q _ => ∃ (H0 : Hp) (v : V) (u : T), vs = [v] ∧ Same H0 H ∧ Nodes H0 u [v] ∧ Wf u false ∧ u.sz < 100000 ∧ ∀ l H' ms, H l = none → Same H H' → H' l = some (.lst ms) → Ats H0 u.inner ms → Q (.ref l) H'
theorem len_sz : ∀ t : T, t.len ≤ t.sz
  | .nil => Nat.le_refl _
  | .text s r => by have := len_sz r; simp only [T.len, T.sz]; omega
  | .shw s r => by have := len_sz r; simp only [T.len, T.sz]; omega
  | .num r => by have := len_sz r; simp only [T.len, T.sz]; omega
  | .cho _ _ _ r => by have := len_sz r; simp only [T.len, T.sz]; omega
  | .cas _ _ r => by have := len_sz r; simp only [T.len, T.sz]; omega
theorem ok_inner {f fI fC fO : Addr} {fd fdI fdC fdO : FuncData} (F : Fun K "inner_messages" "inner_messages" sInner f fd)
    (GI : FnOk P w K mg base CX0 1 fI fdI ["node"] spIs) (bI : Binds K fdI ["node"] []) (kI : PySem.W.keepIn K (.ref fI) = true) (mI : mg "is_choice" = some (.ref fI))
    (GC : FnOk P w K mg base CX0 1 fC fdC ["node"] spCases) (bC : Binds K fdC ["node"] []) (kC : PySem.W.keepIn K (.ref fC) = true) (mC : mg "cases_of" = some (.ref fC))
    (GO : FnOk P w K mg base CX0 1 fO fdO ["node"] spOther) (bO : Binds K fdO ["node"] []) (kO : PySem.W.keepIn K (.ref fO) = true) (mO : mg "other_of" = some (.ref fO)) :
    FnOk P w K mg base CX0 2 f fd ["node"] spInner := by
  refine F.ok scInner (fun vs H Q E h => ?_) (fun cdv A outer s H vs Q E hr h => ?_)
  · obtain ⟨H0, v, u, rfl, _⟩ := h
    rfl
  obtain ⟨H0, v, u, rfl, h0, hn, hw, hz, q⟩ := h
  have nd := scInner.nd
  refine ⟨_, pss_cons (ps_if (pt_not (pt_val (pe_call GI hr rfl mI kI bI .nil pass0 (pa_cons (pv 0) pa_nil)))) (pss_one (ps_ret (pe_lst pa_nil))) pss_nil)
    (pss_one (ps_ret (pe_op op_cat
      (pe_lc (own := [("_", 1), ("message", 2)]) (g := gTup K 2 (gCons (gName 1) (gCons (gName 2) gNil))) (tt := tYes) rfl nd (pi_list (pe_call GC hr rfl mC kC bC .nil pass0 (pa_cons (pv 0) pa_nil))) (blkOk_by (N := ["node", "_", "message"]) (sc := defScope sInner) (by decide +kernel))
        (fun _ _ _ _ _ => pg_tup rfl (pgs_cons (pg_name (i := 1) nd rfl (.inl rfl)) (pgs_cons (pg_name (i := 2) nd rfl (.inl rfl)) pgs_nil))) (fun _ _ _ _ _ => pts_nil) (fun _ _ _ _ _ => pv 2))
      (pe_lst (pa_cons (pe_call GO hr rfl mO kO bO .nil pass0 (pa_cons (pv 0) pa_nil)) pa_nil))))), ?_⟩
  refine ⟨_, rfl, v, u, rfl, Nodes.same h0 hn, hw, fun H1 s1 => ⟨_, rfl, ?_⟩⟩
  cases hu : u.isCho with
  | false =>
    refine iteT ⟨Nat.zero_le _, fun l hl => q l _ [] (s1.free hl) (s1.trans (same_new hl _)) upd_same ?_⟩
    cases u <;> first | exact rfl | cases hu
  | true =>
    refine iteF ?_
    cases u with
    | cho hd cs o r =>
      obtain ⟨p, ws, ca, cvs, oa, ovs, e, hp, hc, hcs, ho, hos, hr'⟩ := hn
      cases e
      obtain ⟨ms, m1, m2, m3⟩ := Nodes.msgs hcs hw.2.2.1
      have hlen : ms.length < 99999 := by
        have e1 := hcs.length
        have e2 := len_sz cs
        simp only [T.sz] at hz
        omega
      refine ⟨_, rfl, p, ca, oa, hd, cvs, rfl, s1 _ _ (h0 _ _ hp), s1 _ _ (h0 _ _ hc), fun l hl => ⟨l, rfl, ⟨_, SqL.of upd_same⟩, fun D hD => ?_⟩⟩
      have s2 : Same H (upd H1 l (.lst cvs)) := s1.trans (same_new hl _)
      have s3 : Same (upd H1 l (.lst cvs)) (upd (upd H1 l (.lst cvs)) D (.lst [])) := same_new hD _
      refine lc_list (xs := cvs) (fun i H' => Same (upd H1 l (.lst cvs)) H' ∧ H' D = some (.lst (ms.take i))) ⟨s3, upd_same⟩ (fun i H' _ ⟨s', _⟩ => SqL.of (s' _ _ upd_same)) ?_ ?_
      · rintro i x H' hx ⟨s', hD'⟩
        obtain ⟨p', k, a, rfl, hp', hm'⟩ := m3 i x hx
        refine ⟨p', _, rfl, .inl (.inl (s' _ _ (s2 _ _ (h0 _ _ hp')))), rfl, k, _, rfl, .ref a, [], rfl, rfl, rfl, ?_⟩
        refine ⟨_, rfl, _, hD', sz_line (by rw [List.length_take]; omega), same_mut s' hD _, ?_⟩
        rw [upd_same, List.take_succ, hm']
        rfl
      · rintro H' ⟨s', hD'⟩
        have s4 : Same H H' := s2.trans s'
        rw [m2, List.take_length] at hD'
        refine ⟨_, rfl, p, ca, oa, hd, rfl, s4 _ _ (h0 _ _ hp), by show 1 ≤ sizeLine; decide, fun l2 hl2 => ?_⟩
        refine ⟨D, l2, _, _, rfl, rfl, same_new hl2 _ _ _ hD', upd_same, le_line (by show ms.length + 1 < 10000000; omega), fun l3 hl3 => ?_⟩
        have s5 : Same H (upd (upd H' l2 (.lst [.ref oa])) l3 (.lst (ms ++ [.ref oa]))) := (s4.trans (same_new hl2 _)).trans (same_new hl3 _)
        have ha : Ats H0 (T.cho hd cs o r).inner (ms ++ [.ref oa]) := Ats.append (show Ats H0 [o] [.ref oa] from ⟨oa, [], rfl, ⟨ovs, ho, hos⟩, rfl⟩) m1
        exact q l3 _ (ms ++ [.ref oa]) ((s4.trans (same_new hl2 _)).free hl3) s5 upd_same ha
    | _ => cases hu
end
end Mw

namespace Mw
open PySem L2
theorem nodes_wf : ∀ {t : T} {c : Bool}, Wf t c → ∀ u ∈ t.nodes, Wf u c
  | .nil, _, _, u, h => by cases h
  | .text s r, _, w, u, h => by
    rcases List.mem_cons.mp h with rfl | h
    · exact ⟨w.1, trivial⟩
    · exact nodes_wf w.2 u h
  | .shw s r, _, w, u, h => by
    rcases List.mem_cons.mp h with rfl | h
    · exact ⟨w.1, trivial⟩
    · exact nodes_wf w.2 u h
  | .num r, _, w, u, h => by
    rcases List.mem_cons.mp h with rfl | h
    · exact ⟨w.1, trivial⟩
    · exact nodes_wf w.2 u h
  | .cho hd cs o r, _, w, u, h => by
    rcases List.mem_cons.mp h with rfl | h
    · exact ⟨w.1, w.2.1, w.2.2.1, w.2.2.2.1, trivial⟩
    · exact nodes_wf w.2.2.2.2 u h
  | .cas k m r, _, w, u, h => by
    rcases List.mem_cons.mp h with rfl | h
    · exact ⟨w.1, w.2.1, w.2.2.1, trivial⟩
    · exact nodes_wf w.2.2.2 u h
/-! ### all nodes, in the order of the notation -/
def T.all : T → List T
  | .nil => []
  | .text s r => .text s .nil :: r.all
  | .shw n r => .shw n .nil :: r.all
  | .num r => .num .nil :: r.all
  | .cho hd cs o r => .cho hd cs o .nil :: (cs.all ++ o.all ++ r.all)
  | .cas _ m r => m.all ++ r.all
def allOf (us : List T) : List T := us.flatMap T.all
theorem all_nodes_eq : ∀ {t : T}, Wf t false → allOf t.nodes = t.all
  | .nil, _ => rfl
  | .text s r, w => by
    show (T.text s .nil).all ++ allOf r.nodes = _
    rw [all_nodes_eq w.2]
    rfl
  | .shw s r, w => by
    show (T.shw s .nil).all ++ allOf r.nodes = _
    rw [all_nodes_eq w.2]
    rfl
  | .num r, w => by
    show (T.num .nil).all ++ allOf r.nodes = _
    rw [all_nodes_eq w.2]
    rfl
  | .cho hd cs o r, w => by
    show (T.cho hd cs o .nil).all ++ allOf r.nodes = _
    rw [all_nodes_eq w.2.2.2.2]
    simp [T.all]
  | .cas _ _ _, w => by cases w.1
theorem all_msgs : ∀ {t : T}, Wf t true → t.msgs.flatMap T.all = t.all
  | .nil, _ => rfl
  | .cas _ m r, w => by
    show m.all ++ r.msgs.flatMap T.all = _
    rw [all_msgs w.2.2.2]
    rfl
  | .text _ _, w => by cases w.1
  | .shw _ _, w => by cases w.1
  | .num _, w => by cases w.1
  | .cho _ _ _ _, w => by cases w.1
theorem wf_msgs : ∀ {t : T}, Wf t true → ∀ m ∈ t.msgs, Wf m false
  | .nil, _, m, h => by cases h
  | .cas _ m r, w, m', h => by
    rcases List.mem_cons.mp h with rfl | h
    · exact w.2.2.1
    · exact wf_msgs w.2.2.2 m' h
  | .text _ _, w, _, _ => by cases w.1
  | .shw _ _, w, _, _ => by cases w.1
  | .num _, w, _, _ => by cases w.1
  | .cho _ _ _ _, w, _, _ => by cases w.1
theorem wf_inner {u : T} (w : Wf u false) : ∀ m ∈ u.inner, Wf m false := by
  cases u with
  | cho hd cs o r =>
    intro m h
    rcases List.mem_append.mp h with h | h
    · exact wf_msgs w.2.2.1 m h
    · rw [List.mem_singleton.mp h]
      exact w.2.2.2.1
  | _ => intro m h; cases h
/-- a node, then what is within it -/
theorem all_one {u : T} (w : Wf u false) (hs : u.single) : u.all = u :: u.inner.flatMap T.all := by
  cases u with
  | nil => cases hs
  | text s r => cases (show r = .nil from hs); rfl
  | shw n r => cases (show r = .nil from hs); rfl
  | num r => cases (show r = .nil from hs); rfl
  | cho hd cs o r =>
    cases (show r = .nil from hs)
    show T.cho hd cs o .nil :: (cs.all ++ o.all ++ T.nil.all) = T.cho hd cs o .nil :: (cs.msgs ++ [o]).flatMap T.all
    rw [List.flatMap_append, all_msgs w.2.2.1]
    simp [T.all]
  | cas k m r => cases w.1
theorem all_sz : ∀ t : T, t.all.length ≤ t.sz
  | .nil => Nat.le_refl _
  | .text s r => by have := all_sz r; simp only [T.all, T.sz, List.length_cons]; omega
  | .shw s r => by have := all_sz r; simp only [T.all, T.sz, List.length_cons]; omega
  | .num r => by have := all_sz r; simp only [T.all, T.sz, List.length_cons]; omega
  | .cho _ cs o r => by
    have h1 := all_sz cs
    have h2 := all_sz o
    have h3 := all_sz r
    simp only [T.all, T.sz, List.length_cons, List.length_append]
    omega
  | .cas _ m r => by
    have h1 := all_sz m
    have h3 := all_sz r
    simp only [T.all, T.sz, List.length_append]
    omega
/-- a pending forest: every tree well made, its first node apart -/
def szs (us : List T) : Nat := (us.map T.sz).sum
theorem szs_append (us vs : List T) : szs (us ++ vs) = szs us + szs vs := by
  unfold szs
  rw [List.map_append, List.sum_append]
theorem szs_nodes : ∀ t : T, szs t.nodes = t.sz
  | .nil => rfl
  | .text s r => by have := szs_nodes r; simp only [szs, T.nodes, T.sz, List.map_cons, List.sum_cons] at *; omega
  | .shw s r => by have := szs_nodes r; simp only [szs, T.nodes, T.sz, List.map_cons, List.sum_cons] at *; omega
  | .num r => by have := szs_nodes r; simp only [szs, T.nodes, T.sz, List.map_cons, List.sum_cons] at *; omega
  | .cho _ cs o r => by have := szs_nodes r; simp only [szs, T.nodes, T.sz, List.map_cons, List.sum_cons] at *; omega
  | .cas _ m r => by have := szs_nodes r; simp only [szs, T.nodes, T.sz, List.map_cons, List.sum_cons] at *; omega
theorem szs_msgs : ∀ {t : T}, szs t.msgs ≤ t.sz
  | .cas _ m r => by have := @szs_msgs r; simp only [szs, T.msgs, T.sz, List.map_cons, List.sum_cons] at *; omega
  | .nil => Nat.le_refl _
  | .text _ _ => Nat.zero_le _
  | .shw _ _ => Nat.zero_le _
  | .num _ => Nat.zero_le _
  | .cho _ _ _ _ => Nat.zero_le _
theorem szs_inner {u : T} (hs : u.single) : szs u.inner < u.sz := by
  cases u with
  | cho hd cs o r =>
    have := @szs_msgs cs
    show szs (cs.msgs ++ [o]) < 1 + cs.sz + o.sz + r.sz
    rw [szs_append]
    simp only [szs, List.map_cons, List.map_nil, List.sum_cons, List.sum_nil] at *
    omega
  | nil => cases hs
  | text s r => show 0 < 1 + s.length + r.sz; omega
  | shw s r => show 0 < 1 + r.sz; omega
  | num r => show 0 < 1 + r.sz; omega
  | cas k m r => show 0 < 1 + m.sz + r.sz; omega
theorem szs_fm : ∀ l : List T, szs (l.flatMap T.nodes) = szs l
  | [] => rfl
  | m :: l => by
    rw [List.flatMap_cons, szs_append, szs_fm l, szs_nodes]
    rfl
theorem szs_rev (l : List T) : szs l.reverse = szs l := by
  unfold szs
  rw [List.map_reverse, List.sum_reverse]
theorem szs_take (l : List T) (i : Nat) : szs (l.take i) ≤ szs l := by
  have := szs_append (l.take i) (l.drop i)
  rw [List.take_append_drop] at this
  omega
theorem Ns.szs {H : Hp} : ∀ {us : List T} {vs : List V}, Ns H us vs → vs.length ≤ szs us
  | [], _, h => by rw [show _ = [] from h]; exact Nat.le_refl _
  | u :: us, _, h => by
    obtain ⟨v, ws, rfl, h1, h2⟩ := h
    have := h1.length
    have := len_sz u
    have := h2.szs
    show ws.length + 1 ≤ u.sz + Mw.szs us
    simp only [List.length_singleton] at *
    omega
section
variable {P : Program} {w : World} {K : PySem.W.Frag} {mg : Str → Option Value} {base : Heap}
/-! ### all_nodes -/
abbrev sAll : Stmt := top 9
theorem scAll : FnScope ["message", "found", "ahead", "node", "inner"] ["message"] (defScope sAll) := ⟨rfl, rfl, rfl, by decide +kernel, rfl, by decide +kernel, by decide +kernel⟩
def spAll : Sp := fun vs H Q _ => ∃ (a : Addr) (t : T), vs = [.ref a] ∧ At H a t ∧ Wf t false ∧ t.sz < 80000 ∧ ∀ l H' ws, H l = none → Same H H' → H' l = some (.lst ws) → Ns H t.all ws → Q (.ref l) H'
theorem ok_all {f fI : Addr} {fd fdI : FuncData} (F : Fun K "all_nodes" "all_nodes" sAll f fd) (GI : FnOk P w K mg base CX0 2 fI fdI ["node"] spInner) (bI : Binds K fdI ["node"] []) (kI : PySem.W.keepIn K (.ref fI) = true) (mI : mg "inner_messages" = some (.ref fI)) :
    FnOk P w K mg base CX0 3 f fd ["message"] spAll := by
  refine F.ok scAll (fun vs H Q E h => ?_) (fun cdv A outer s H vs Q E hr h => ?_)
  · obtain ⟨a, t, rfl, _⟩ := h
    rfl
  obtain ⟨a, t, rfl, ⟨vs, ha, hn⟩, hw, hz, q⟩ := h
  have nd := scAll.nd
  refine ⟨_, pss_cons (ps_set (i := 1) nd rfl (.inl rfl) (pe_lst pa_nil)) (pss_cons (ps_set (i := 2) nd rfl (.inl rfl) (pe_revL (pv 0)))
    (pss_cons (ps_while PassesOwn.never (pt_truth (pv 2) (by intro _; rfl))
      (pss_cons (ps_set (i := 3) nd rfl (.inl rfl) (pe_bm0 PySem.F.plainAttrs_list PySem.F.slot_list_pop PySem.F.type_list_pop mt_pop (pv 2)))
      (pss_cons (ps_expr (pe_bm PySem.F.plainAttrs_list PySem.F.slot_list_append PySem.F.type_list_append mt_append (pv 1) (pa_cons (pv 3) pa_nil)))
      (pss_one (ps_for PassesOwn.never rfl (pi_list (pe_revL (pe_call GI hr rfl mI kI bI .nil pass0 (pa_cons (pv 3) pa_nil)))) (pg_name (i := 4) nd rfl (.inl rfl))
        (pss_one (ps_expr (pe_bm PySem.F.plainAttrs_list PySem.F.slot_list_extend PySem.F.type_list_extend mt_extend (pv 2) (pa_cons (pe_revL (pv 4)) pa_nil)))))))))
    (pss_one (ps_ret (pv 1))))), ?_⟩
  refine ⟨Nat.zero_le _, fun fl hfl => ?_⟩
  have s1 : Same H (upd H fl (.lst [])) := same_new hfl _
  refine ⟨_, rfl, a, vs, rfl, SqL.of (s1 _ _ ha), fun al hal => ?_⟩
  have s2 : Same H (upd (upd H fl (.lst [])) al (.lst vs.reverse)) := s1.trans (same_new hal _)
  have hal0 : H al = none := upd_none hal
  have hne : al ≠ fl := fun e => by rw [e, upd_same] at hal; cases hal
  refine ⟨fun m σ H' => ∃ (ws as : List V) (us done : List T) (o3 o4 : Option V), σ = [some (.ref a), some (.ref fl), some (.ref al), o3, o4] ∧ Same H H' ∧ H' fl = some (.lst ws) ∧ Ns H done ws ∧ H' al = some (.lst as) ∧ Ns H us as.reverse ∧ (∀ u ∈ us, Wf u false) ∧ t.all = done ++ allOf us ∧ szs us ≤ t.sz ∧ m = szs us, ⟨t.sz, [], vs.reverse, t.nodes, [], none, none, rfl, s2, (by rw [upd_ne hne.symm]; exact upd_same), rfl, upd_same, (by rw [List.reverse_reverse]; exact hn.ns), nodes_wf hw, (by rw [all_nodes_eq hw]; rfl), (by rw [szs_nodes]; exact Nat.le_refl _), (szs_nodes t).symm⟩, ?_⟩
  rintro m σ H' ⟨ws, as, us, done, o3, o4, rfl, s', hf, hd, ha', hu, huw, hall, hsz, rfl⟩
  have hdl : done.length < 80000 := by
    have e := congrArg List.length hall
    rw [List.length_append] at e
    have := all_sz t
    omega
  refine ⟨.ref al, rfl, !as.isEmpty, .inl ⟨as, SqL.of ha', rfl⟩, ?_⟩
  cases us with
  | nil =>
    have e : as = [] := List.reverse_eq_nil_iff.mp (show as.reverse = [] from hu)
    subst e
    refine iteF ?_
    rw [show t.all = done by rw [hall]; exact List.append_nil _] at q
    exact ⟨_, rfl, q fl H' ws hfl s' hf hd⟩
  | cons u us =>
    obtain ⟨v, vr, e, hu1, hu2⟩ := hu
    have e' : as = vr.reverse ++ [v] := by
      rw [← List.reverse_reverse as, e, List.reverse_cons]
    subst e'
    have hT : (!(vr.reverse ++ [v]).isEmpty) = true := by simp
    rw [hT]
    refine iteT ?_
    have uw := huw u (by simp)
    obtain ⟨p, x, xs, rfl, hp, hsg, _, _⟩ := node_of hu1 uw
    have hszu : u.sz + szs us ≤ t.sz := hsz
    -- node = ahead.pop(); found.append(node)
    refine ⟨fun σ' H'' => ∃ m', m' < szs (u :: us) ∧ ∃ (ws as : List V) (us done : List T) (o3 o4 : Option V), σ' = [some (.ref a), some (.ref fl), some (.ref al), o3, o4] ∧ Same H H'' ∧ H'' fl = some (.lst ws) ∧ Ns H done ws ∧ H'' al = some (.lst as) ∧ Ns H us as.reverse ∧ (∀ u ∈ us, Wf u false) ∧ t.all = done ++ allOf us ∧ szs us ≤ t.sz ∧ m' = szs us, fun σ' H'' z => z, ?_⟩
    refine ⟨.ref al, rfl, .inl ⟨rfl, _, SqL.of ha'⟩, al, _, .ref p, rfl, rfl, ha', by simp, ?_⟩
    rw [List.dropLast_concat]
    have s3 : Same H (upd H' al (.lst vr.reverse)) := same_mut s' hal0 _
    have hf3 : upd H' al (.lst vr.reverse) fl = some (.lst ws) := by rw [upd_ne hne.symm]; exact hf
    refine ⟨_, rfl, .inl ⟨rfl, _, SqL.of hf3⟩, _, rfl, fl, _, _, rfl, rfl, hf3, sz_line (by rw [hd.length]; omega), ?_⟩
    have s4 : Same H (upd (upd H' al (.lst vr.reverse)) fl (.lst (ws ++ [.ref p]))) := same_mut s3 hfl _
    -- inner_messages(node)[::-1]
    refine ⟨_, rfl, H, .ref p, u, rfl, s4, hu1, uw, by omega, fun il H5 ms hil s5 hil5 hms => ?_⟩
    refine ⟨il, ms, rfl, SqL.of hil5, fun rl hrl => ?_⟩
    have hal4 : upd (upd H' al (.lst vr.reverse)) fl (.lst (ws ++ [.ref p])) al = some (.lst vr.reverse) := by rw [upd_ne hne]; exact upd_same
    have hrl5 : H5 rl = none := hrl
    have s6 : Same H (upd H5 rl (.lst ms.reverse)) := (s4.trans s5).trans (same_new hrl _)
    have nra : rl ≠ al := (ne_of_none (s5 _ _ hal4) hrl).symm
    have hdone : Ns H (done ++ [u]) (ws ++ [.ref p]) := Ns.append (show Ns H [u] [.ref p] from ⟨_, [], rfl, hu1, rfl⟩) hd
    have hml : ms.length = u.inner.length := hms.length
    refine ⟨rl, rfl, ⟨_, SqL.of upd_same⟩, for_list (xs := ms.reverse) (fun i σ' H'' => ∃ (o4 : Option V) (as : List V), σ' = [some (.ref a), some (.ref fl), some (.ref al), some (.ref p), o4] ∧ Same H H'' ∧ H'' fl = some (.lst (ws ++ [.ref p])) ∧ H'' rl = some (.lst ms.reverse) ∧ H'' al = some (.lst as) ∧ Ns H (((u.inner.reverse.take i).reverse).flatMap T.nodes ++ us) as.reverse)
      ⟨o4, vr.reverse, rfl, s6, s6 |> fun _ => (by rw [upd_ne (ne_of_none (s5 _ _ upd_same) hrl)]; exact s5 _ _ upd_same), upd_same, (by rw [upd_ne nra.symm]; exact s5 _ _ hal4), (by rw [List.reverse_reverse]; exact hu2)⟩
      (fun i σ' H'' _ ⟨_, _, _, _, _, h, _⟩ => SqL.of h) ?_ ?_⟩
    · rintro i x' σ' H'' hx ⟨o4, as, rfl, s7, hf7, hr7, ha7, hn7⟩
      have hi : i < ms.length := by
        have := (List.getElem?_eq_some_iff.mp hx).1
        rw [List.length_reverse] at this
        exact this
      have hx2 : ms[ms.length - 1 - i]? = some x' := by
        rw [List.getElem?_reverse hi] at hx
        exact hx
      obtain ⟨m, ma, hm1, rfl, ⟨mvs, hma, hmn⟩⟩ := hms.get hx2
      have hm2 : u.inner.reverse[i]? = some m := by
        rw [List.getElem?_reverse (by omega), ← hml]
        exact hm1
      have hmem : m ∈ u.inner := List.mem_of_getElem? hm1
      refine ⟨_, rfl, .inl ⟨rfl, _, SqL.of ha7⟩, _, rfl, ma, mvs, rfl, SqL.of (s7 _ _ hma), fun nl hnl => ?_⟩
      have nna : nl ≠ al := (ne_of_none ha7 hnl).symm
      have hn1 : m.nodes ++ (((u.inner.reverse.take i).reverse).flatMap T.nodes ++ us) = ((u.inner.reverse.take (i + 1)).reverse).flatMap T.nodes ++ us := by
        rw [List.take_succ, hm2]
        simp
      have hns : Ns H (m.nodes ++ (((u.inner.reverse.take i).reverse).flatMap T.nodes ++ us)) (mvs ++ as.reverse) := Ns.append hn7 hmn.ns
      have hbound : as.length + mvs.length < 1000000 := by
        have b1 := hns.szs
        rw [hn1, szs_append, szs_fm, szs_rev, List.length_append, List.length_reverse] at b1
        have b2 := szs_take u.inner.reverse (i + 1)
        rw [szs_rev] at b2
        have b3 := szs_inner hsg
        omega
      refine ⟨al, nl, as, mvs.reverse, rfl, rfl, by rw [upd_ne nna.symm]; exact ha7, upd_same, Nat.le_trans (Nat.le_of_lt (by rw [List.length_reverse]; exact hbound)) (by decide), ?_⟩
      refine ⟨_, as ++ mvs.reverse, rfl, same_mut (s7.trans (same_new hnl _)) hal0 _, ?_, ?_, upd_same, ?_⟩
      · rw [upd_ne hne.symm, upd_ne (ne_of_none hf7 hnl)]
        exact hf7
      · rw [upd_ne nra, upd_ne (ne_of_none hr7 hnl)]
        exact hr7
      · rw [List.reverse_append, List.reverse_reverse, ← hn1]
        exact hns
    · rintro σ' H'' ⟨o4, as, rfl, s7, hf7, hr7, ha7, hn7⟩
      have e1 : (u.inner.reverse.take ms.reverse.length).reverse = u.inner := by
        rw [List.length_reverse, hml, show u.inner.length = u.inner.reverse.length from (List.length_reverse).symm, List.take_length, List.reverse_reverse]
      rw [e1] at hn7
      have e2 : szs (u.inner.flatMap T.nodes) = szs u.inner := szs_fm _
      have e3 : allOf (u.inner.flatMap T.nodes) = u.inner.flatMap T.all := by
        have : ∀ l : List T, (∀ m ∈ l, Wf m false) → allOf (l.flatMap T.nodes) = l.flatMap T.all := by
          intro l
          induction l with
          | nil => intro _; rfl
          | cons m l ih =>
            intro h
            rw [List.flatMap_cons, List.flatMap_cons, ← ih fun x hx => h x (List.mem_cons_of_mem _ hx), ← all_nodes_eq (h m (by simp))]
            simp [allOf]
        exact this _ (wf_inner uw)
      have hlt := szs_inner hsg
      refine ⟨szs (u.inner.flatMap T.nodes ++ us), ?_, _, as, _, done ++ [u], _, o4, rfl, s7, hf7, hdone, ha7, hn7, ?_, ?_, ?_, rfl⟩
      · rw [szs_append, e2]
        show _ < u.sz + szs us
        omega
      · intro x hx
        rcases List.mem_append.mp hx with hx | hx
        · obtain ⟨m, hm, hx⟩ := List.mem_flatMap.mp hx
          exact nodes_wf (wf_inner uw m hm) x hx
        · exact huw x (List.mem_cons_of_mem _ hx)
      · rw [hall]
        show done ++ (u.all ++ allOf us) = _
        rw [all_one uw hsg]
        simp only [allOf, List.flatMap_append] at *
        rw [e3]
        simp
      · rw [szs_append, e2]
        omega
end
end Mw

namespace Mw
open PySem L2
/-! ### what a message asks for -/
def hdAsk : List V → List (Str × Str)
  | [.str x, .str n] => if x = "select" then [(n, "text")] else []
  | [.str x, .str n, _] => if x = "plural" then [(n, "number")] else []
  | _ => []
def T.asks : T → List (Str × Str)
  | .nil => []
  | .text _ r => r.asks
  | .shw n r => (n, "any") :: r.asks
  | .num r => r.asks
  | .cho hd cs o r => hdAsk hd ++ cs.asks ++ o.asks ++ r.asks
  | .cas _ m r => m.asks ++ r.asks
def T.own : T → List (Str × Str)
  | .shw n _ => [(n, "any")]
  | .cho hd _ _ _ => hdAsk hd
  | _ => []
theorem all_asks : ∀ t : T, t.all.flatMap T.own = t.asks
  | .nil => rfl
  | .text _ r => by simp [T.all, T.asks, T.own, all_asks r]
  | .shw _ r => by simp [T.all, T.asks, T.own, all_asks r]
  | .num r => by simp [T.all, T.asks, T.own, all_asks r]
  | .cho _ cs o r => by simp [T.all, T.asks, T.own, all_asks cs, all_asks o, all_asks r]
  | .cas _ m r => by simp [T.all, T.asks, all_asks m, all_asks r]
theorem all_wf : ∀ {t : T} {c : Bool}, Wf t c → ∀ u ∈ t.all, Wf u false
  | .nil, _, _, u, h => by cases h
  | .text s r, _, w, u, h => by
    rcases List.mem_cons.mp h with rfl | h
    · exact ⟨rfl, trivial⟩
    · exact all_wf w.2 u h
  | .shw s r, _, w, u, h => by
    rcases List.mem_cons.mp h with rfl | h
    · exact ⟨rfl, trivial⟩
    · exact all_wf w.2 u h
  | .num r, _, w, u, h => by
    rcases List.mem_cons.mp h with rfl | h
    · exact ⟨rfl, trivial⟩
    · exact all_wf w.2 u h
  | .cho hd cs o r, _, w, u, h => by
    rcases List.mem_cons.mp h with rfl | h
    · exact ⟨rfl, w.2.1, w.2.2.1, w.2.2.2.1, trivial⟩
    · rcases List.mem_append.mp h with h | h
      · rcases List.mem_append.mp h with h | h
        · exact all_wf w.2.2.1 u h
        · exact all_wf w.2.2.2.1 u h
      · exact all_wf w.2.2.2.2 u h
  | .cas k m r, _, w, u, h => by
    rcases List.mem_append.mp h with h | h
    · exact all_wf w.2.2.1 u h
    · exact all_wf w.2.2.2 u h
/-! ### the kinds by names -/
abbrev Ks := List (Str × Str)
def lk (l : Ks) (n : Str) : Option Str := (l.find? fun p => decide (p.1 = n)).map (·.2)
def pt (l : Ks) (n s : Str) : Ks := if (l.any fun p => decide (p.1 = n)) = true then l.map (fun p => if p.1 = n then (p.1, s) else p) else l ++ [(n, s)]
def kv (l : Ks) : List (L2.Key × V) := l.map fun p => (Sum.inr p.1, .str p.2)
theorem inr_dec (a b : Str) : (decide ((Sum.inr a : L2.Key) = Sum.inr b)) = decide (a = b) := by
  by_cases h : a = b
  · subst h
    simp
  · simp [h]
theorem val_kv (n : Str) : ∀ l : Ks, valV (kv l) (Sum.inr n) = (lk l n).map V.str
  | [] => rfl
  | p :: r => by
    by_cases e : p.1 = n
    · rw [show lk (p :: r) n = some p.2 by simp [lk, e]]
      exact valV_pos (p := ((Sum.inr p.1 : L2.Key), V.str p.2)) (by rw [e])
    · rw [show lk (p :: r) n = lk r n by simp [lk, e], ← val_kv n r]
      exact valV_neg (p := ((Sum.inr p.1 : L2.Key), V.str p.2)) (fun z => e (Sum.inr.inj z))
theorem put_kv (l : Ks) (n s : Str) : putK (kv l) (Sum.inr n) (.str s) = kv (pt l n s) := by
  have a : ((kv l).any fun q => decide (q.1 = Sum.inr n)) = (l.any fun p => decide (p.1 = n)) := by
    unfold kv
    rw [List.any_map]
    congr 1
    funext p
    exact inr_dec _ _
  unfold putK pt
  rw [a]
  split
  · unfold kv
    rw [List.map_map, List.map_map]
    refine List.map_congr_left fun p _ => ?_
    by_cases e : p.1 = n
    · simp [e]
    · simp [e]
  · unfold kv
    rw [List.map_append]
    rfl
theorem pt_len (l : Ks) (n s : Str) : (pt l n s).length ≤ l.length + 1 := by
  unfold pt
  split
  · rw [List.length_map]
    omega
  · rw [List.length_append]
    exact Nat.le_refl _
theorem pt_keys (l : Ks) (n s : Str) : (pt l n s).map (·.1) = if n ∈ l.map (·.1) then l.map (·.1) else l.map (·.1) ++ [n] := by
  have a : (l.any fun p => decide (p.1 = n)) = decide (n ∈ l.map (·.1)) := by
    rw [Bool.eq_iff_iff, List.any_eq_true, decide_eq_true_iff, List.mem_map]
    constructor
    · rintro ⟨p, h, e⟩
      exact ⟨p, h, of_decide_eq_true e⟩
    · rintro ⟨p, h, e⟩
      exact ⟨p, h, decide_eq_true e⟩
  unfold pt
  rw [a]
  by_cases h : n ∈ l.map (·.1)
  · rw [if_pos (decide_eq_true h), if_pos h, List.map_map]
    refine List.map_congr_left fun p _ => ?_
    by_cases e : p.1 = n
    · simp [e]
    · simp [e]
  · rw [if_neg (by simp [h]), if_neg h, List.map_append]
    rfl
theorem pt_same {n s : Str} : ∀ {l : Ks}, (l.map (·.1)).Nodup → lk l n = some s → pt l n s = l
  | [], _, h => by simp [lk] at h
  | p :: r, nd, h => by
    obtain ⟨n1, n2⟩ := List.nodup_cons.mp nd
    unfold pt
    by_cases e : p.1 = n
    · have hp : p.2 = s := by simpa [lk, e] using h
      rw [if_pos (by simp [e])]
      have hr : r.map (fun q => if q.1 = n then (q.1, s) else q) = r := by
        conv => rhs; rw [← List.map_id r]
        refine List.map_congr_left fun q hq => ?_
        rw [if_neg (fun z => n1 (by show p.1 ∈ _; rw [e, ← z]; exact List.mem_map_of_mem (f := (·.1)) hq))]
        rfl
      rw [List.map_cons, hr, if_pos e, ← hp]
    · have h' : lk r n = some s := by simpa [lk, e] using h
      have ih := pt_same n2 h'
      have ha : (r.any fun q => decide (q.1 = n)) = true := by
        unfold lk at h'
        cases hf : r.find? (fun q => decide (q.1 = n)) with
        | none =>
          rw [hf] at h'
          cases h'
        | some q =>
          have hd := List.find?_some hf
          exact List.any_eq_true.mpr ⟨q, List.mem_of_find?_eq_some hf, hd⟩
      unfold pt at ih
      rw [if_pos ha] at ih
      rw [if_pos (by rw [List.any_cons, ha, Bool.or_true]), List.map_cons, ih, if_neg e]
def st (l : Ks) (p : Str × Str) : Option Ks :=
  if (lk l p.1).getD "any" = "any" then some (pt l p.1 p.2) else if p.2 ≠ "any" ∧ p.2 ≠ (lk l p.1).getD "any" then none else some l
def go : Ks → List (Str × Str) → Except Str Ks
  | l, [] => .ok l
  | l, p :: r => match st l p with
    | some l' => go l' r
    | none => .error p.1
theorem go_one (l : Ks) (p : Str × Str) : go l [p] = match st l p with
    | some l' => .ok l'
    | none => .error p.1 := by
  cases h : st l p with
  | some l' => simp [go, h]
  | none => simp [go, h]
theorem go_app (b : List (Str × Str)) : ∀ (a : List (Str × Str)) (l : Ks), go l (a ++ b) = match go l a with
    | .ok l' => go l' b
    | .error n => .error n
  | [], _ => rfl
  | p :: r, l => by
    show (match st l p with | some l' => go l' (r ++ b) | none => .error p.1) = _
    cases h : st l p with
    | some l' =>
      have ih := go_app b r l'
      rw [show go l (p :: r) = go l' r by simp [go, h]]
      exact ih
    | none => rw [show go l (p :: r) = .error p.1 by simp [go, h]]
theorem st_keys {l l' : Ks} {p : Str × Str} (h : st l p = some l') (nd : (l.map (·.1)).Nodup) : (l'.map (·.1)).Nodup ∧ (∀ n ∈ l'.map (·.1), n ∈ l.map (·.1) ∨ n = p.1) ∧ l'.length ≤ l.length + 1 := by
  unfold st at h
  split at h
  · cases h
    have e := pt_keys l p.1 p.2
    refine ⟨?_, ?_, pt_len _ _ _⟩
    · rw [e]
      split
      · exact nd
      · rename_i hn
        exact nd_snoc nd hn
    · intro n hn
      rw [e] at hn
      split at hn
      · exact .inl hn
      · rcases List.mem_append.mp hn with hn | hn
        · exact .inl hn
        · exact .inr (List.mem_singleton.mp hn)
  · split at h
    · cases h
    · cases h
      exact ⟨nd, fun n hn => .inl hn, Nat.le_succ _⟩
theorem go_keys : ∀ {a : List (Str × Str)} {l l' : Ks}, go l a = .ok l' → (l.map (·.1)).Nodup → (l'.map (·.1)).Nodup ∧ ∀ n ∈ l'.map (·.1), n ∈ l.map (·.1) ∨ n ∈ a.map (·.1)
  | [], l, l', h, nd => by
    have : l = l' := by simpa [go] using h
    subst this
    exact ⟨nd, fun n hn => .inl hn⟩
  | p :: r, l, l', h, nd => by
    cases hs : st l p with
    | none =>
      rw [show go l (p :: r) = .error p.1 by simp [go, hs]] at h
      cases h
    | some l1 =>
      rw [show go l (p :: r) = go l1 r by simp [go, hs]] at h
      obtain ⟨k1, k2, _⟩ := st_keys hs nd
      obtain ⟨g1, g2⟩ := go_keys h k1
      refine ⟨g1, fun n hn => ?_⟩
      rcases g2 n hn with z | z
      · rcases k2 n z with z | z
        · exact .inl z
        · exact .inr (by rw [z]; exact List.mem_cons_self)
      · exact .inr (List.mem_cons_of_mem _ z)
def names5 : List Str := ["n", "w", "who", "count", "kind"]
theorem few_keys {l : Ks} (nd : (l.map (·.1)).Nodup) (h : ∀ n ∈ l.map (·.1), n ∈ names5) : l.length ≤ 5 := by
  have := nd.length_le_of_subset (fun n hn => h n hn)
  rw [List.length_map] at this
  exact this
def kn (l : Ks) (n : Str) : Str := (lk l n).getD "any"
theorem st_none {l : Ks} {n k : Str} : st l (n, k) = none ↔ ((k ≠ "any" ∧ kn l n ≠ "any") ∧ k ≠ kn l n) := by
  unfold st
  show (if kn l n = "any" then _ else if k ≠ "any" ∧ k ≠ kn l n then none else some l) = none ↔ _
  by_cases h : kn l n = "any"
  · rw [if_pos h]
    simp [h]
  · rw [if_neg h]
    by_cases h2 : k ≠ "any" ∧ k ≠ kn l n
    · rw [if_pos h2]
      simp [h, h2]
    · rw [if_neg h2]
      simp only [reduceCtorEq, false_iff]
      rintro ⟨⟨a, _⟩, b⟩
      exact h2 ⟨a, b⟩
theorem st_put {l l' : Ks} {n k : Str} (nd : (l.map (·.1)).Nodup) (h : st l (n, k) = some l') : pt l n (if k = "any" then kn l n else k) = l' := by
  unfold st at h
  have h : (if kn l n = "any" then some (pt l n k) else if k ≠ "any" ∧ k ≠ kn l n then none else some l) = some l' := h
  by_cases c : kn l n = "any"
  · rw [if_pos c] at h
    cases h
    by_cases e : k = "any"
    · rw [if_pos e, c, e]
    · rw [if_neg e]
  · rw [if_neg c] at h
    split at h
    · cases h
    · rename_i c2
      cases h
      have hl : lk l n = some (kn l n) := by
        unfold kn at c ⊢
        cases z : lk l n with
        | none =>
          rw [z] at c
          exact absurd rfl c
        | some v => rfl
      have e : (if k = "any" then kn l n else k) = kn l n := by
        by_cases e : k = "any"
        · rw [if_pos e]
        · rw [if_neg e]
          by_cases e2 : k = kn l n
          · exact e2
          · exact absurd ⟨e, e2⟩ c2
      rw [e]
      exact pt_same nd hl
/-- what a node's tuple says -/
theorem own_of {H : Hp} {u : T} {v : V} (h : Nodes H u [v]) (w : Wf u false) : ∃ p x xs, v = .ref p ∧ H p = some (.tup (.str x :: xs)) ∧
    ((∃ n xs', xs = .str n :: xs' ∧ ((x = "show" ∧ u.own = [(n, ("any" : Str))]) ∨ (x = "select" ∧ u.own = [(n, ("text" : Str))]) ∨ (x = "plural" ∧ u.own = [(n, ("number" : Str))]))) ∨ ((x = "text" ∨ x = "number") ∧ u.own = [])) := by
  cases u with
  | nil => cases (show [v] = [] from h)
  | text s r =>
    obtain ⟨p, ws, e, hp, hr⟩ := h
    cases e
    exact ⟨p, _, _, rfl, hp, .inr ⟨.inl rfl, rfl⟩⟩
  | shw n r =>
    obtain ⟨p, ws, e, hp, hr⟩ := h
    cases e
    exact ⟨p, _, _, rfl, hp, .inl ⟨n, [], rfl, .inl ⟨rfl, rfl⟩⟩⟩
  | num r =>
    obtain ⟨p, ws, e, hp, hr⟩ := h
    cases e
    exact ⟨p, _, _, rfl, hp, .inr ⟨.inr rfl, rfl⟩⟩
  | cho hd cs o r =>
    obtain ⟨p, ws, ca, cvs, oa, ovs, e, hp, _, _, _, _, hr⟩ := h
    cases e
    rcases w.2.1 with ⟨n, rfl⟩ | ⟨n, off, rfl⟩
    · exact ⟨p, _, _, rfl, hp, .inl ⟨n, _, rfl, .inr (.inl ⟨rfl, rfl⟩)⟩⟩
    · exact ⟨p, _, _, rfl, hp, .inl ⟨n, _, rfl, .inr (.inr ⟨rfl, rfl⟩)⟩⟩
  | cas k m r => cases w.1
end Mw

/-! an __init__ whose first statement is super().__init__(..), of an own class below ValueError -/
namespace Sx
open PySem PySem.Spec PyProof.Rows L2 NdefX
/-- what the row says of the class at C (the cell cc holds it) and of its __init__ at f -/
structure Sup (P : Program) (K : PySem.W.Frag) (mg : Str → Option Value) (C cc cda f : Addr) (F : NF) (ps : List Str) : Prop where
  T : OexC K C
  fn : ∃ (dV kV doc pm ct oc : Value) (an od : Option Addr) (osl : Array (Option Value)), K.lookup f = some ⟨oc, od, .func (PySem.W.fnX F.name F.qual F.params F.body F.scope F.cl dV kV doc pm an (.ref F.c) ct), osl⟩
  cl : F.cl = [(("__class__" : Str), cc)]
  fc : F.c = cda
  cd : PySem.W.codeIn K (.ref cda) F.qual = true
  ar : ∃ ar : Arg, (F.params.posonlyargs ++ F.params.args).head? = some ar ∧ ps[0]? = some ar.arg
  code : ∃ (ccl : Value) (cdd : Option Addr) (vs : Array Value) (ccs : Array (Option Value)) (file : Str) (tf : Tok), K.lookup cda = some ⟨ccl, cdd, .fields vs, ccs⟩ ∧ vs[2]? = some (.str file tf) ∧ ((P.main.file : Str) == file) = true
  cell : ∃ (c1 : Value) (d1 : Option Addr) (s1 : Array (Option Value)), K.lookup cc = some ⟨c1, d1, .cell (some (.ref C)), s1⟩
  isC : ∃ cd, PySem.W.clsIn K C = some cd
  sub : PySem.W.mroIn K C (.ref C) = some true
  gs : mg "super" = none
  ks : F.scope.names.lookup ("super" : Str) = some .globalImplicit
  top : (P.main.scope.names.lookup ("super" : Str)).isSome = false
  sm : PySem.W.ks_superIn K C C "__init__" = some (some (.builtin "ValueError.__init__"))
  opq : PySem.W.nsIn K cStatics "thirdparty.any" = some none
  isV : PySem.W.subIn K (.ref C) (.type "ValueError") = some true
section
variable {M : Model} {A : Around} {E : Value → Shared → Prop} {h : Heap} {g : Array GenState} {d : Drawn} {t : Nat} {os : OsState}
variable {nm q : Str} {C N : Addr} {bs bm : List Value} {hdct : Bool} {sn : List Str} {sub : List Value} {ab : Bool} {col : Option Bool} {dd : Option Addr} {k0 k1 k2 k3 k5 : Option Value}
theorem cw_mw {pos : Pos} {u x : Addr} {i : String} {env : Env} {e : Expr} {es : List Expr} {s : Shared} {Q : Value → Shared → Prop} (he : starEach (e :: es) env = (false, eval e env) :: starEach es env) (hpl : (backTo pos (starEach es env)).any (·.1) = false)
    (h : wpAny M A (spliced (backTo pos (starEach (e :: es) env))) (fun vs s1 => PySem.W.KxsAt i u x s1.heap ∧ wpAny M A (call (.ref u) vs) Q E s1) E s) : wpAny M A (callWith pos (.ref u) [] (backTo pos (starEach (e :: es) env)) []) Q E s := by
  have hb : (backTo pos (starEach (e :: es) env)).any (·.1) = false := by
    rw [he]
    show (false || (backTo pos (starEach es env)).any (·.1)) = false
    rw [hpl]
    rfl
  refine PySem.W.kxs_callWith (i := i) (x := x) hb ?_
  rw [he] at h ⊢
  exact Calls.evalArgs_plain h
theorem call_mw {P : Program} {w : World} {u e t0 : Addr} {us : List Value} {Q : Value → Shared → Prop} (hC : h.get? C = some (excClassObj nm q C N bs bm hdct sn sub ab col dd k0 k1 k2 k3 k5 "ValueError.__new__"))
    (he : h.get? e = some (HandSPX.excO C t0)) (hu : h.get? u = some (PySem.W.kxs_mw "ValueError.__init__" e)) (hl : us.length ≤ sizeLine)
    (hq : ∀ h' t1, (∀ b o, b ≠ e → h.get? b = some o → h'.get? b = some o) → h'.get? e = some (HandSPX.excO C t1) → Q .none ⟨h', g, d, t, os⟩) : wpAny (model P w) A (call (.ref u) us) Q E ⟨h, g, d, t, os⟩ := by
  refine wpAny_call (codeAny_of_tree ?_)
  show wpAny (model P w) A.in1 (callAny (Value.ref u) ⟨us, []⟩) _ _ _
  simp only [callAny]
  refine wpAny_bind (wpAny_load hu ?_)
  have tw : (Value.type "method-wrapper" == Value.type "method" || Value.type "method-wrapper" == Value.type "builtin_function_or_method" || Value.type "method-wrapper" == Value.type "method-wrapper") = true := by decide
  simp only [PySem.W.kxs_mw, tw, if_true]
  refine PySem.W.KFB.if_so (by decide) ?_
  refine wpAny_bind (PySem.W.check_bound_init F.excBase_ValueError.toExcCallFacts hC he rfl ?_)
  refine wpAny_bind (wpAny_pure (wpAny_pure ?_))
  refine ⟨plainId_quiet F.excBase_ValueError.init.plain _, codeAny_builtin F.excBase_ValueError.initEntry ?_⟩
  rw [Around.under_plainId F.excBase_ValueError.init.plain _]
  refine PySem.W.exc_init_tree (cls := .ref C) (t0 := t0) (dv := none) (c2 := .none) (c3 := .none) (b4 := .bool false) he hl (fun h' k e' _ => ?_)
  exact hq h' _ k e'
end
section
variable {CX : CXT} {P : Program} {w : World} {K : PySem.W.Frag} {mg : Str → Option Value} {base : Heap} {C cc cda f : Addr} {F : NF} {N ps : List Str} {k : Nat} {sp : Sp} {body rest : List Stmt} {p0 p1 p2 p3 p4 : Pos} {e : Expr} {es : List Expr}
theorem fn_super {dV kV doc pm ct : Value} {an : Option Addr} {oc : Value} {od : Option Addr} {osl : Array (Option Value)} (U : Sup P K mg C cc cda f F ps) (lk : K.lookup f = some ⟨oc, od, .func (PySem.W.fnX F.name F.qual F.params F.body F.scope F.cl dV kV doc pm an (.ref F.c) ct), osl⟩)
    (S : NScope N ps ["__class__"] F.scope)
    (hbd : F.body = .Expr (.Call (.Attribute (.Call (.Name "super" p0) [] [] p1) "__init__" p2) (e :: es) [] p3) p4 :: rest)
    (len : ∀ vs H Q E, sp vs H Q E → vs.length = ps.length)
    (he : ∀ env, starEach (e :: es) env = (false, eval e env) :: starEach es env) (hpl : ∀ env, (backTo p3 (starEach es env)).any (·.1) = false)
    (hev : ∀ env, eval (.Call (.Attribute (.Call (.Name "super" p0) [] [] p1) "__init__" p2) (e :: es) [] p3) env = (do
      let ov ← attributeBase (.Call (.Name "super" p0) [] [] p1) "__init__" env (eval (.Call (.Name "super" p0) [] [] p1) env)
      standAt p2.atName
      let (f, first) ← holding [ov] (getMethod ov "__init__" (pure false))
      callWith p3 f first (backTo p3 (starEach (e :: es) env)) []))
    (hin : ∀ env : Env, env.scope = F.scope → interactive env = false)
    (hsw : ∀ env : Env, swapsWith (.Call (.Attribute (.Call (.Name "super" p0) [] [] p1) "__init__" p2) (e :: es) [] p3) none p4.line env = pure false)
    (hbody : ∀ (A : Around) (outer : List Env) (s : Shared) (H : Hp) (vs : List V) (Q : VK) (E : XK), Room k (A.deeper (envF F f s.heap.objs.size)) → sp vs H Q E →
      ∃ (x : Addr) (ta : TA) (t : TS), vs[0]? = some (.ref x) ∧ H x = some (exo x C none) ∧ PA (ncx CX P w K mg base N F f A outer s H E) (e :: es) ta ∧ PSs (ncx CX P w K mg base N F f A outer s H E) rest t ∧
        ta (startF N vs [none]) H fun us H1 => us.length ≤ 1000 ∧ H1 x = some (exo x C none) ∧ t { nx := fun _ H' => Q .non H', rt := Q } (startF N vs [none]) H1) :
    FnOk P w K mg base CX (k + 1) f (PySem.W.fnX F.name F.qual F.params F.body F.scope F.cl dV kV doc pm an (.ref F.c) ct) ps sp := by
  refine ⟨len, fun A outer s H args us vs Q E hr e0 hb r hsp => ?_⟩
  have hl := len _ _ _ _ hsp
  have KX : K.In s.heap := e0.mod.kin.keeps fun b o z => (e0.bs b o z).1
  have lim : s.heap.NoLimit := e0.mod.nolimit.keeps fun b o z => (e0.bs b o z).1
  obtain ⟨ar, ha1, ha2⟩ := U.ar
  obtain ⟨ccl, cdd, cvs, ccs, file, tf, hco, hv2, hfi⟩ := U.code
  obtain ⟨c1, d1, s1, hce⟩ := U.cell
  obtain ⟨cdC, hcC⟩ := U.isC
  have hfc := U.fc
  subst hfc
  refine PySem.ks_codeAny_call_defAt (fd := PySem.W.fnX F.name F.qual F.params F.body F.scope F.cl dV kV doc pm an (.ref F.c) ct) hr.depth (KX _ _ lk) rfl lim (PySem.W.codeRec_of KX U.cd) rfl hb S.nocell (fun ⟨n, _⟩ hy => S.par n (List.of_mem_zip hy).1) (fun h₁ hns kp => ?_) S.co S.gen S.kind
  show PySem.wpAt (model P w) (A.deeper (envF F f s.heap.objs.size)) (.func F.body (envF F f s.heap.objs.size)) (execs F.body (envF F f s.heap.objs.size)) _ _ _
  obtain ⟨x, ta, t, hx0, hHx, hA, hS, hq⟩ := hbody A outer s H vs Q E (hr.deeper _) hsp
  have CA : CellsAt F.cl ["__class__"] [none] s.heap H := by
    have hcb := e0.bs cc _ (e0.mod.kin _ _ hce)
    rw [U.cl]
    refine ⟨rfl, fun y c z => ?_, fun y z c a b => ?_, fun i y hy => ?_⟩
    · have : y = "__class__" ∧ c = cc := by
        simp only [List.lookup] at z
        split at z
        · rename_i q
          exact ⟨by simpa using q, (Option.some.inj z).symm⟩
        · cases z
      rw [this.2]
      exact ⟨hcb.2, _, ⟨_, hcb.1, rfl⟩⟩
    · simp only [List.lookup] at a b
      split at a
      · split at b
        · rename_i q1 _ q2
          rw [show y = "__class__" by simpa using q1, show z = "__class__" by simpa using q2]
        · cases b
      · cases a
    · have : y = "__class__" := by
        cases i with
        | zero => exact (Option.some.inj hy).symm
        | succ i => simp at hy
      subst this
      refine ⟨cc, by simp [List.lookup], fun v hv => ?_⟩
      cases i with
      | zero => cases hv
      | succ i => simp at hv
  have I : Inv (ncx CX P w K mg base N F f A outer s H E) [] (startF N vs [none]) H { s with heap := h₁, toks := s.toks + (ps.zip us).length } := inv_startN S hr.hd e0 hl r CA hns kp
  have KX1 : K.In h₁ := KX.keeps kp
  have hkc : F.scope.names.lookup ("__class__" : Str) = some .free := S.frk _ List.mem_cons_self
  have npar : ps.Nodup := by
    have q := S.pre
    have z : (N.take (ps.length + [("__class__" : Str)].length)).Nodup := S.nd.sublist (List.take_sublist _ N)
    rw [q] at z
    exact (List.nodup_append.mp z).1
  have hux : us[0]? = some (.ref x) := by
    cases r with
    | nil => simp at hx0
    | @cons v0 u0 vr ur rv rr =>
      simp at hx0
      subst hx0
      obtain rfl : u0 = Value.ref x := rv
      rfl
  have hself : (ps.zip us).reverse.lookup ar.arg = some (.ref x) := zip_look npar ha2 hux
  have hka : F.scope.names.lookup ar.arg = some .local := S.par _ (List.mem_of_getElem? ha2)
  obtain ⟨t1, hox⟩ := exo_at I.hok hHx
  have hox' : h₁.get? x = some (HandSPX.excO C t1) := hox
  rw [hbd]
  obtain ⟨sh, sg, sd, st, so⟩ := s
  have hi := hin (envF F f sh.objs.size) rfl
  refine PySem.ks_wpAt_execs_cons (PySem.ks_wpAt_Expr_any (PySem.ks_wpAt_MethodCall (pl := pure false) ?_ (hev _)) hi (hsw _))
  obtain ⟨oD, hD1, hD2⟩ : ∃ oD, h₁.get? C = some oD ∧ oD.data = .cls cdC := by
    unfold PySem.W.clsIn at hcC
    split at hcC
    · rename_i c d cd' sl ho
      cases hcC
      exact ⟨_, KX1 _ _ ho, rfl⟩
    · cases hcC
  refine PySem.ks_wpAt_super_base (env := envF F f sh.objs.size) U.ks hkc (by decide) rfl (KX1 _ _ lk) rfl ha1 rfl (KX1 _ _ hco) rfl hv2 hfi U.top ?_
  obtain ⟨mb, hb1, hb2⟩ := I.mod.blt
  refine PySem.W.ks_loadName_global S.kind U.ks (Calls.loadGlobal_builtin (I.mod.glob.keeps I.bk) U.gs (hb1.keeps I.bk) ((hb2 "super" (by decide)).trans PyProof.Rows.Boot.«super») ⟨rfl, ?_⟩)
  refine wpAny_loadName_free S.kind hkc (c := cc) (by show F.cl.lookup _ = _; rw [U.cl]; rfl) ⟨_, KX1 _ _ hce, rfl⟩ ?_
  refine wpAny_loadName_local S.kind hka hns hself ?_
  refine PySem.ks_wpAny_isType_cls hD1 hD2 ⟨rfl, ?_⟩
  refine PySem.ks_wpAny_call_super hD1 hD2 hox' rfl (fun c z => by cases z) (PySem.W.looks_mroIn KX1 U.sub) (fun h2 es2 k2 => ?_)
  have KX2 : K.In h2 := KX1.keeps k2
  have IA : PySem.W.InstAt h2 x (HandSPX.excO C t1) C none := ⟨k2 _ _ hox', rfl, rfl, trivial⟩
  have hII : PySem.W.Looks (model P w) h2 (isInstance (.ref x) (.type "ValueError")) true := IA.type.andThen (PySem.W.looks_subIn KX2 U.isV)
  have hm := U.sm
  unfold PySem.W.ks_superIn at hm
  rw [hcC] at hm
  refine PySem.W.kxs_getMethod PySem.W.kxs_ValueError es2 (PySem.W.looks_opaque KX2 U.opq) (l₀ := cdC.mro) ?_ rfl KX2 hm hII (PySem.W.ks_ne KX2 IA hcC) (by decide) ?_
  · exact fun A Q E s k q => wpAny_bind ((PySem.W.looks_clsIn KX2 hcC) A _ E s k (wpAny_pure q))
  have hu : (h2.push (PySem.W.kxs_mw "ValueError.__init__" x)).get? h2.objs.size = some (PySem.W.kxs_mw "ValueError.__init__" x) := Heap.get?_push_size _ rfl
  have k3 : ∀ b o, h₁.get? b = some o → (h2.push (PySem.W.kxs_mw "ValueError.__init__" x)).get? b = some o := fun b o z => Heap.get?_push_of_some _ (k2 b o z)
  have I3 : Inv (ncx CX P w K mg base N F f A outer ⟨sh, sg, sd, st, so⟩ H E) [] (startF N vs [none]) H ⟨h2.push (PySem.W.kxs_mw "ValueError.__init__" x), sg, sd, st + (ps.zip us).length + 1, so⟩ := I.kept (t' := st + (ps.zip us).length + 1) k3
  have I2 : Inv (ncx CX P w K mg base N F f A outer ⟨sh, sg, sd, st, so⟩ H E) [] (startF N vs [none]) H ⟨h2, sg, sd, st + (ps.zip us).length, so⟩ := I.kept (t' := st + (ps.zip us).length) k2
  have I4 : Inv (ncx CX P w K mg base N F f A outer ⟨sh, sg, sd, st, so⟩ H E) [(h2.objs.size, PySem.W.kxs_mw "ValueError.__init__" x)] (startF N vs [none]) H ⟨h2.push (PySem.W.kxs_mw "ValueError.__init__" x), sg, sd, st + (ps.zip us).length + 1, so⟩ :=
    I3.pins_of fun p hp => by
      rw [List.mem_singleton] at hp
      subst hp
      exact ⟨hu, I2.hok.fresh (Nat.le_refl _), fun z => absurd I2.lt (by rw [← z]; exact Nat.lt_irrefl _), I2.nofs (Nat.le_refl _), fun v z => by cases z⟩
  refine cw_mw (i := "ValueError.__init__") (x := x) (he _) (hpl _) ?_
  refine thn (hA.run p3 _ _ _ H _ (I4.tok _) hq) fun us2 s2 hz => ?_
  obtain ⟨vs2, H2, J, r2, hl2, hx2, ht2⟩ := hz
  obtain ⟨hpu, _⟩ := J.pin (h2.objs.size, PySem.W.kxs_mw "ValueError.__init__" x) (List.mem_append_right _ List.mem_cons_self)
  refine ⟨hpu, ?_⟩
  obtain ⟨nm, q, NN, bs, bm, sn, sub, ab, col, dd, k0, k1, kk2, kk3, k5, hCl, hbm⟩ := U.T.cls
  obtain ⟨t2, ho2⟩ := exo_at J.hok hx2
  have hlen2 : us2.length ≤ sizeLine := by
    rw [← Paired.length r2, sizeLine_eq]
    omega
  obtain ⟨hp2, g2, d2, tk2, os2⟩ := s2
  refine call_mw (J.kIn _ _ hCl) ho2 hpu hlen2 fun h' t3 k3 hx3 => ?_
  have J1 := J.write (t' := tk2) (x := x) (e := x) (o := exo x C none) (by rw [hx2]; exact True.intro) (.inl rfl) k3 ⟨_, hx3⟩ (exo_ok hx3)
  have eu : upd H2 x (exo x C none) = H2 := by
    funext b
    by_cases hb : b = x
    · rw [hb, upd_same, hx2]
    · rw [upd_ne hb]
  rw [eu] at J1
  have J2 := J1.pins_of (pins' := []) fun p hp => absurd hp (by simp)
  refine PySem.wpAt_of_wpAny (wpAny_mono (hS.run [] _ (startF N vs [none]) H2 _ J2 ht2) (fun fl s' hs => ?_) fun e s' hs => hs)
  cases fl with
  | ret u =>
    obtain ⟨v, σ', H', G, rv, q⟩ := hs
    exact ⟨v, H', G.os, G.bare, G.base, G.hok, rv, q⟩
  | next =>
    obtain ⟨σ', H', G, q⟩ := hs
    exact ⟨V.non, H', G.os, G.bare, G.base, G.hok, rfl, q⟩
  | brk => exact hs.elim fun _ z => z.elim fun _ z => False.elim z.2
  | cont => exact hs.elim fun _ z => z.elim fun _ z => False.elim z.2
end
end Sx

namespace Mw
open PySem L2 NdefX Sx
theorem slen (a b : Str) : (a ++ b).length = a.length + b.length := by
  show (a.cps ++ b.cps).size = _
  rw [Array.size_append]
  rfl
def initOf (s : Stmt) : Stmt := match s with
  | .ClassDef _ _ _ b _ _ _ _ _ _ _ => b.headD (.Pass ⟨0, 0, 0, 0⟩)
  | s => s
abbrev sBad : Stmt := initOf (top 2)
abbrev nBad (cc cda : Addr) : NF := ⟨"__init__", "BadMessage.__init__", defArgs sBad, defBody sBad, defScope sBad, [("__class__", cc)], cda⟩
theorem scBad : NScope ["self", "name", "__class__"] ["self", "name"] ["__class__"] (defScope sBad) := nscope_by (by decide +kernel)
def spBad (C : Addr) : Sp := fun vs H Q _ => ∃ (x : Addr) (n : Str), vs = [.ref x, .str n] ∧ n.length ≤ 100 ∧ H x = some (exo x C none) ∧ ∀ dx, H dx = none → dx ≠ x → Q .non (upd (upd H dx (exd dx [("name", .str n)])) x (exo x C (some dx)))
section
variable {P : Program} {w : World} {K : PySem.W.Frag} {mg : Str → Option Value} {base : Heap}
theorem ok_bad {CX : CXT} {C cc cda f : Addr} {dV kV doc pm ct oc : Value} {an od : Option Addr} {osl : Array (Option Value)} (U : Sup P K mg C cc cda f (nBad cc cda) ["self", "name"]) (no : PySem.W.findIn K (.ref C) "name" = some none)
    (lk : K.lookup f = some ⟨oc, od, .func (PySem.W.fnX "__init__" "BadMessage.__init__" (defArgs sBad) (defBody sBad) (defScope sBad) [("__class__", cc)] dV kV doc pm an (.ref cda) ct), osl⟩) :
    FnOk P w K mg base CX 1 f (PySem.W.fnX "__init__" "BadMessage.__init__" (defArgs sBad) (defBody sBad) (defScope sBad) [("__class__", cc)] dV kV doc pm an (.ref cda) ct) ["self", "name"] (spBad C) := by
  refine fn_super (k := 0) (F := nBad cc cda) U lk scBad rfl (fun vs H Q E h => ?_) (fun _ => rfl) (fun _ => rfl) (fun _ => rfl) (fun env h => by unfold interactive; rw [h]; rfl) (fun _ => rfl) (fun A outer s H vs Q E hr h => ?_)
  · obtain ⟨x, n, rfl, _⟩ := h
    rfl
  obtain ⟨x, n, rfl, hn, hx, q⟩ := h
  refine ⟨x, _, _, rfl, hx, pa_cons (pe_joined (.cons (pe_fmt (pv 1)) (.cons pe_str .nil))) pa_nil, pss_one (ps_ost (pv 0) (pv 1)), ?_⟩
  have e0 : (Str.empty ++ n).length = n.length := by rw [slen, show Str.empty.length = 0 from rfl, Nat.zero_add]
  refine ⟨_, rfl, .inl ⟨n, rfl, Nat.le_trans hn (by decide), n, rfl, by rw [e0]; exact Nat.le_trans hn (by decide), _, rfl, ?_, by show 1 ≤ 1000; decide, hx, ?_⟩⟩
  · rw [slen, e0]
    exact Nat.le_trans (Nat.add_le_add_right hn _) (by decide)
  · exact ⟨_, rfl, _, rfl, x, C, rfl, U.T, no, .inl ⟨hx, q⟩⟩
end
end Mw

namespace Mw
open PySem L2
def allNames (t : T) : Prop := ∀ p ∈ t.asks, p.1 ∈ names5
abbrev sKinds : Stmt := top 10
theorem scKinds : FnScope ["message", "kinds", "node", "name", "asked", "known"] ["message"] (defScope sKinds) := ⟨rfl, rfl, rfl, by decide +kernel, rfl, by decide +kernel, by decide +kernel⟩
def outK (l : Ks) (ys : List Str) : List (L2.Key × V) := kv (ys.map fun n => (n, (lk l n).getD "any"))
def spKinds (C : Addr) : Sp := fun vs H Q E => ∃ (a : Addr) (t : T), vs = [.ref a] ∧ At H a t ∧ Wf t false ∧ t.sz < 80000 ∧ allNames t ∧
  (∀ l, go [] t.asks = .ok l → ∀ d H' ys, H d = none → Same H H' → ys.Perm (l.map (·.1)) → PyProof.Rows.sortedS ys = true → H' d = some (.dK (outK l ys)) → Q (.ref d) H') ∧
  (∀ n, go [] t.asks = .error n → ∀ dx H', H dx = none → Same H H' → H' dx = some (.xd [("name", .str n)]) → E (.ref C) (some dx) H')
/-- what the row says of the kinds by words -/
structure KA (K : PySem.W.Frag) (mg : Str → Option Value) (w : World) (kd : Addr) (es : Array DictEntry) (n : Nat) : Prop where
  g : mg "ASKED_KINDS" = some (.ref kd)
  d : KDict K w kd es n
  k1 : ∃ t, PySem.W.nsIn K kd "show" = some (some (.str "any" t))
  k2 : ∃ t, PySem.W.nsIn K kd "select" = some (some (.str "text" t))
  k3 : ∃ t, PySem.W.nsIn K kd "plural" = some (some (.str "number" t))
  n1 : PySem.W.nsIn K kd "text" = some none
  n2 : PySem.W.nsIn K kd "number" = some none
theorem short5 {n : Str} (h : n ∈ names5) : n.length ≤ 100 := by
  have a : ∀ s ∈ names5, s.length ≤ 100 := by decide +kernel
  exact a n h
/-- a dict that is made over a list, turn by turn -/
theorem dcl {K : PySem.W.Frag} {a D : Addr} {xs : List V} {g : TG} {tt : TT} {tk tv : TE} {own : List Nat} {σ : L2.St} {H1 : Hp} {Qd : Hp → Prop} (J : Nat → Hp → Prop)
    (j0 : J 0 (upd H1 D (.dK []))) (jl : ∀ i H, i ≤ xs.length → J i H → SqL K H a xs)
    (step : ∀ i x H, xs[i]? = some x → J i H → g x (wipe σ own) H fun σ2 H2 => wipe σ2 own = wipe σ own ∧ tt σ2 H2 fun b H3 =>
      if b = true then tk σ2 H3 fun y H4 => tv σ2 H4 fun z H5 => ∃ kvs k, y = kV k ∧ H5 D = some (.dK kvs) ∧ kvs.length < sizeLine ∧ J (i + 1) (upd H5 D (.dK (putK kvs k z))) else J (i + 1) H3)
    (done : ∀ H, J xs.length H → Qd H) : ∃ W : Nat → Nat → Hp → Prop, (∃ m, W 0 m (upd H1 D (.dK []))) ∧ ∀ i m H, W i m H →
      ((Itl K a).stop i H ∧ Qd H) ∨ ((Itl K a).go i H ∧ ∃ Nx : Hp → Prop, (∀ H', Nx H' → ∃ m', m' < m ∧ W (i + 1) m' H') ∧
        ∀ x H', (Itl K a).yld i H x H' → g x (wipe σ own) H' fun σ2 H2 => wipe σ2 own = wipe σ own ∧ tt σ2 H2 fun b H3 =>
          if b = true then tk σ2 H3 fun y H4 => tv σ2 H4 fun z H5 => ∃ kvs k, y = kV k ∧ H5 D = some (.dK kvs) ∧ kvs.length < sizeLine ∧ Nx (upd H5 D (.dK (putK kvs k z))) else Nx H3) := by
  refine ⟨fun i m H => m + i = xs.length ∧ J i H, ⟨xs.length, rfl, j0⟩, fun i m H ⟨e, j⟩ => ?_⟩
  have hs := jl i H (by omega) j
  by_cases hi : i < xs.length
  · refine .inr ⟨⟨xs, xs[i], hs, by simp [hi]⟩, J (i + 1), fun H' j' => ⟨m - 1, by omega, by omega, j'⟩, fun x H' z => ?_⟩
    obtain ⟨rfl, z⟩ := z
    exact step i x _ (z xs hs) j
  · have : i = xs.length := by omega
    subst this
    exact .inl ⟨⟨xs, hs, Nat.le_refl _⟩, done H j⟩
section
variable {P : Program} {w : World} {K : PySem.W.Frag} {mg : Str → Option Value} {base : Heap}
theorem ok_kinds {f fA fB C kd : Addr} {fd fdA fdB : FuncData} {es : Array DictEntry} {n : Nat} (F : Fun K "kinds_of" "kinds_of" sKinds f fd) (GA : FnOk P w K mg base CX0 3 fA fdA ["message"] spAll) (bA : Binds K fdA ["message"] []) (kA : PySem.W.keepIn K (.ref fA) = true) (mA : mg "all_nodes" = some (.ref fA))
    (A1 : KA K mg w kd es n) (ms : mg "sorted" = none)
    (U : OexC K C) (iC : PySem.W.findIn K (.ref C) "__init__" = some (some (.ref fB))) (tI : PySem.W.typeIn K (.ref fB) = some (.type "function")) (GB : FnOk P w K mg base (L2.CX P w) 1 fB fdB ["self", "name"] (spBad C)) (bB : Binds K fdB ["self", "name"] []) (mB : mg "BadMessage" = some (.ref C)) :
    FnOk P w K mg base (L2.CX P w) 4 f fd ["message"] (spKinds C) := by
  refine F.okX scKinds (fun vs H Q E h => ?_) (fun cdv A outer s H vs Q E hr h => ?_)
  · obtain ⟨a, t, rfl, _⟩ := h
    rfl
  obtain ⟨a, t, rfl, ha, hw, hz, hnm, q1, q2⟩ := h
  have nd := scKinds.nd
  have hu := hu_of hr
  refine ⟨_, pss_cons (ps_set (i := 1) nd rfl (.inr rfl) pe_dnewK)
    (pss_cons (ps_for (passes_of rfl) rfl (pi_list (pe_call GA hr rfl mA kA bA .nil pass0 (pa_cons (pv 0) pa_nil))) (pg_name (i := 2) nd rfl (.inl rfl))
      (pss_cons (ps_if (pt_cmpR (op_notIn_kd A1.d) (pe_ix ix_tup (pv 2) pe_int (fun _ _ => rfl)) (pe_glob rfl A1.g (v := .ref kd) rfl) (by rfl)) (pss_one ps_continue) pss_nil)
      (pss_cons (ps_set (i := 3) nd rfl (.inl rfl) (pe_ix ix_tup (pv 2) pe_int (fun _ _ => rfl)))
      (pss_cons (ps_set (i := 4) nd rfl (.inl rfl) (pe_ix ix_kdict (pe_glob rfl A1.g (v := .ref kd) rfl) (pe_ix ix_tup (pv 2) pe_int (fun _ _ => rfl)) (fun _ _ => rfl)))
      (pss_cons (ps_set (i := 5) nd rfl (.inl rfl) (pe_dget2 hu (pv 1) (pv 3) pe_str ⟨rfl, rfl, rfl, rfl⟩))
      (pss_cons (ps_if (PW.pt (pw_and (pt_cmpR op_notIn_seq pe_str (pe_tup (pa_cons (pv 4) (pa_cons (pv 5) pa_nil))) (by rfl)) (pw_and1 (pt_cmpR op_ne (pv 4) (pv 5) (nomark _)))))
        (pss_one (ps_raise rfl (takes_of rfl rfl rfl rfl) (pmk_oex (k := 1) U iC tI GB (hr.mono (by decide)) bB .nil passL rfl mB (pa_cons (pv 3) pa_nil)))) pss_nil)
      (pss_one (ps_dput hu (pv 1) (pv 3) (pe_ifExp (pt_cmpR op_eq (pv 4) pe_str (nomark _)) (pv 5) (pv 4)) rfl))))))))
    (pss_one (ps_ret (pe_dc (own := [("name", 3)]) (g := gName 3) (tt := tYes) rfl nd (pi_list (pe_callB (call_sortedD rfl) (by rfl) ms (by decide +kernel) (pa_cons (pv 1) pa_nil))) (blkOk_by (N := ["message", "kinds", "node", "name", "asked", "known"]) (sc := defScope sKinds) (by decide +kernel))
      (fun _ _ _ _ _ => pg_name (i := 3) nd rfl (.inl rfl)) (fun _ _ _ _ _ => pts_nil) (fun _ _ _ _ _ => pv 3) (fun _ _ _ _ _ => pe_dget hu (pv 1) (pv 3) (fun _ _ => rfl)))))), ?_⟩
  intro d hd
  have s1 : Same H (upd H d (.dK [])) := same_new hd _
  refine ⟨_, rfl, a, t, rfl, ha.same s1, hw, hz, fun l H1 ws hl s2 hl1 hns => ⟨l, rfl, ⟨_, SqL.of hl1⟩, ?_⟩⟩
  have hd1 : H1 d = some (.dK []) := s2 _ _ upd_same
  have hld : l ≠ d := fun e => by rw [e, upd_same] at hl; cases hl
  have s3 : Same H H1 := s1.trans s2
  have hl0 : H l = none := upd_none hl
  have hlen : ws.length = t.all.length := hns.length
  have hall := all_sz t
  refine for_list (xs := ws) (fun i σ H' => ∃ (lks : Ks) (o2 o3 o4 o5 : Option V), σ = [some (.ref a), some (.ref d), o2, o3, o4, o5] ∧ Same H H' ∧ H' l = some (.lst ws) ∧ H' d = some (.dK (kv lks)) ∧ (∀ b xs, H1 b = some (.tup xs) → H' b = some (.tup xs)) ∧
      go [] ((t.all.take i).flatMap T.own) = .ok lks ∧ (lks.map (·.1)).Nodup ∧ lks.length ≤ i)
    ⟨[], none, none, none, none, rfl, s3, hl1, hd1, fun _ _ z => z, rfl, List.nodup_nil, Nat.le_refl _⟩ (fun i σ H' _ ⟨_, _, _, _, _, _, _, h, _⟩ => SqL.of h) ?_ ?_
  · rintro i x σ H' hx ⟨lks, o2, o3, o4, o5, rfl, s', hl', hd', ht', hg, hn, hlk⟩
    obtain ⟨u, hu1, hu2⟩ := hns.get hx
    have uw := all_wf hw u (List.mem_of_getElem? hu1)
    obtain ⟨p, x0, xs, rfl, hp, hcase⟩ := own_of hu2 uw
    have hp' : H' p = some (.tup (.str x0 :: xs)) := ht' _ _ (s2 _ _ hp)
    have htk : (t.all.take (i + 1)).flatMap T.own = (t.all.take i).flatMap T.own ++ u.own := by
      rw [List.take_succ, hu1]
      simp
    have hi : i < 80000 := by
      have := (List.getElem?_eq_some_iff.mp hu1).1
      omega
    have hlk' : (kv lks).length < sizeLine := by
      unfold kv
      rw [List.length_map]
      exact sz_line (by omega)
    rcases hcase with ⟨nm, xs', rfl, hk⟩ | ⟨hx0, hown⟩
    · obtain ⟨kind, hkind, hown⟩ : ∃ kind : Str, (∃ tk, PySem.W.nsIn K kd x0 = some (some (.str kind tk))) ∧ u.own = [(nm, kind)] := by
        rcases hk with ⟨rfl, e⟩ | ⟨rfl, e⟩ | ⟨rfl, e⟩
        · exact ⟨_, A1.k1, e⟩
        · exact ⟨_, A1.k2, e⟩
        · exact ⟨_, A1.k3, e⟩
      obtain ⟨tk, hkind⟩ := hkind
      rw [hown] at htk
      have hmem : (nm, kind) ∈ t.asks := by
        rw [← all_asks]
        exact List.mem_flatMap.mpr ⟨u, List.mem_of_getElem? hu1, by rw [hown]; exact List.mem_cons_self⟩
      refine ⟨_, rfl, p, _, 0, .str x0, rfl, rfl, .inl (.inl hp'), atI_nat (j := 0) rfl, x0, _, rfl, rfl, hkind, _, rfl, ?_⟩
      refine iteF ?_
      refine ⟨_, rfl, p, _, 1, .str nm, rfl, rfl, .inl (.inl hp'), atI_nat (j := 1) rfl, ?_⟩
      refine ⟨_, rfl, p, _, 0, .str x0, rfl, rfl, .inl (.inl hp'), atI_nat (j := 0) rfl, kd, x0, .str kind, rfl, rfl, ⟨es, n, _, A1.d.at_, A1.d.lit, hkind, ⟨tk, rfl⟩⟩, ?_⟩
      refine ⟨_, rfl, d, rfl, .inl ⟨_, .inl hd'⟩, _, rfl, _, DGet.k (k := Sum.inr nm) hd', ?_⟩
      rw [val_kv]
      have hkn : ((lk lks nm).map V.str).getD (.str "any") = .str (kn lks nm) := by
        unfold kn
        cases lk lks nm <;> rfl
      rw [hkn]
      refine ⟨_, rfl, _, rfl, by show 2 ≤ sizeLine; decide, fun tt htt => ⟨tt, _, rfl, .inr (.inl (.inl upd_same)), rfl, rfl, _, rfl, ?_⟩⟩
      have s5 : Same H' (upd H' tt (.tup [.str kind, .str (kn lks nm)])) := same_new htt _
      show (if (!inV (V.str "any") [.str kind, .str (kn lks nm)]) = true then _ else _)
      rw [in_two]
      have go1 : go [] ((t.all.take (i + 1)).flatMap T.own) = match st lks (nm, kind) with | some l' => .ok l' | none => .error nm := by
        rw [htk, go_app, hg]
        exact go_one lks (nm, kind)
      cases hst : st lks (nm, kind) with
      | none =>
        obtain ⟨⟨k1, k2⟩, k3⟩ := st_none.mp hst
        rw [show (!decide ((Str.ofString "any") = kind ∨ (Str.ofString "any") = kn lks nm)) = true by simp [Ne.symm k1, Ne.symm k2]]
        refine iteT ⟨_, rfl, _, rfl, rfl, _, rfl, ?_⟩
        show (if (!decide (V.str kind = V.str (kn lks nm))) = true then _ else _)
        rw [show (!decide (V.str kind = V.str (kn lks nm))) = true by simp [k3]]
        refine iteT ⟨_, rfl, by show 1 ≤ 1000; decide, fun e he => ⟨e, nm, rfl, short5 (hnm _ hmem), upd_same, fun dx hdx hne => ⟨rfl, dx, _, upd_same, by rw [upd_ne hne]; exact upd_same, (upd_none hdx), ?_⟩⟩⟩
        have hgo : go [] t.asks = .error nm := by
          rw [← all_asks, ← List.take_append_drop (i + 1) t.all, List.flatMap_append, go_app, go1, hst]
        have hdxH : H dx = none := s'.free (upd_none (upd_none hdx))
        have heH : H e = none := s'.free (upd_none he)
        refine q2 nm hgo dx _ hdxH (fun b o hb => ?_) upd_same
        have b1 : b ≠ dx := ne_of_none hb hdxH
        have b2 : b ≠ e := ne_of_none hb heH
        rw [upd_ne b1, del_ne b2, upd_ne b2, upd_ne b1, upd_ne b2]
        exact s5 _ _ (s' _ _ hb)
      | some l' =>
        have hput := st_put hn hst
        obtain ⟨n1, _, n3⟩ := st_keys hst hn
        have hd5 : upd H' tt (.tup [.str kind, .str (kn lks nm)]) d = some (.dK (kv lks)) := s5 _ _ hd'
        have tail : ∀ v, pt lks nm v = l' → ∃ (lks2 : Ks) (o2 o3 o4 o5 : Option V), [some (V.ref a), some (V.ref d), some (V.ref p), some (V.str nm), some (V.str kind), some (V.str (kn lks nm))] = [some (.ref a), some (.ref d), o2, o3, o4, o5] ∧
            Same H (upd (upd H' tt (.tup [.str kind, .str (kn lks nm)])) d (.dK (putK (kv lks) (Sum.inr nm) (.str v)))) ∧ upd (upd H' tt (.tup [.str kind, .str (kn lks nm)])) d (.dK (putK (kv lks) (Sum.inr nm) (.str v))) l = some (.lst ws) ∧
            upd (upd H' tt (.tup [.str kind, .str (kn lks nm)])) d (.dK (putK (kv lks) (Sum.inr nm) (.str v))) d = some (.dK (kv lks2)) ∧
            (∀ b xs, H1 b = some (.tup xs) → upd (upd H' tt (.tup [.str kind, .str (kn lks nm)])) d (.dK (putK (kv lks) (Sum.inr nm) (.str v))) b = some (.tup xs)) ∧
            go [] ((t.all.take (i + 1)).flatMap T.own) = .ok lks2 ∧ (lks2.map (·.1)).Nodup ∧ lks2.length ≤ i + 1 := fun v hv =>
          ⟨l', _, _, _, _, rfl, same_mut (s'.trans s5) hd _, by rw [upd_ne hld]; exact s5 _ _ hl', by rw [upd_same, put_kv, hv],
            fun b xs hb => by
              rw [upd_ne (fun z => by rw [z, hd1] at hb; cases hb)]
              exact s5 _ _ (ht' _ _ hb),
            by rw [go1, hst], n1, by omega⟩
        by_cases c : (Str.ofString "any") = kind ∨ (Str.ofString "any") = kn lks nm
        · rw [show (!decide ((Str.ofString "any") = kind ∨ (Str.ofString "any") = kn lks nm)) = false by simp [c]]
          refine iteF (iteF ?_)
          refine ⟨_, rfl, rfl, _, rfl, ?_⟩
          by_cases e : kind = "any"
          · rw [if_pos e] at hput
            show (if decide (V.str kind = V.str "any") = true then _ else _)
            rw [show decide (V.str kind = V.str "any") = true by simp [e]]
            refine iteT ⟨_, rfl, ?_⟩
            refine ⟨_, rfl, _, rfl, d, _, rfl, DPut.k (k := Sum.inr nm) hd5 hlk', ?_⟩
            exact tail _ hput
          · rw [if_neg e] at hput
            show (if decide (V.str kind = V.str "any") = true then _ else _)
            rw [show decide (V.str kind = V.str "any") = false by simp [e]]
            refine iteF ⟨_, rfl, ?_⟩
            refine ⟨_, rfl, _, rfl, d, _, rfl, DPut.k (k := Sum.inr nm) hd5 hlk', ?_⟩
            exact tail _ hput
        · rw [show (!decide ((Str.ofString "any") = kind ∨ (Str.ofString "any") = kn lks nm)) = true by simp [c]]
          refine iteT ⟨_, rfl, _, rfl, rfl, _, rfl, ?_⟩
          have ek : kind = kn lks nm := by
            by_cases z : kind = kn lks nm
            · exact z
            · have := st_none.mpr ⟨⟨fun y => c (.inl y.symm), fun y => c (.inr y.symm)⟩, z⟩
              rw [this] at hst
              cases hst
          show (if (!decide (V.str kind = V.str (kn lks nm))) = true then _ else _)
          rw [show (!decide (V.str kind = V.str (kn lks nm))) = false by simp [← ek]]
          refine iteF ?_
          refine ⟨_, rfl, rfl, _, rfl, ?_⟩
          by_cases e : kind = "any"
          · rw [if_pos e] at hput
            show (if decide (V.str kind = V.str "any") = true then _ else _)
            rw [show decide (V.str kind = V.str "any") = true by simp [e]]
            refine iteT ⟨_, rfl, ?_⟩
            refine ⟨_, rfl, _, rfl, d, _, rfl, DPut.k (k := Sum.inr nm) hd5 hlk', ?_⟩
            exact tail _ hput
          · rw [if_neg e] at hput
            show (if decide (V.str kind = V.str "any") = true then _ else _)
            rw [show decide (V.str kind = V.str "any") = false by simp [e]]
            refine iteF ⟨_, rfl, ?_⟩
            refine ⟨_, rfl, _, rfl, d, _, rfl, DPut.k (k := Sum.inr nm) hd5 hlk', ?_⟩
            exact tail _ hput
    · have hns0 : PySem.W.nsIn K kd x0 = some none := by
        rcases hx0 with rfl | rfl
        · exact A1.n1
        · exact A1.n2
      refine ⟨_, rfl, p, _, 0, .str x0, rfl, rfl, .inl (.inl hp'), atI_nat (j := 0) rfl, x0, _, rfl, rfl, hns0, _, rfl, ?_⟩
      refine iteT ?_
      rw [hown, List.append_nil] at htk
      refine ⟨lks, _, o3, o4, o5, rfl, s', hl', hd', ht', ?_, hn, Nat.le_succ_of_le hlk⟩
      rw [htk]
      exact hg
  · rintro σ H' ⟨lks, o2, o3, o4, o5, rfl, s', hl', hd', ht', hg, hn, hlk⟩
    rw [hlen, List.take_length, all_asks] at hg
    have hkeys := (go_keys hg List.nodup_nil).2
    have hk5 : ∀ n ∈ lks.map (·.1), n ∈ names5 := fun n hn' => by
      rcases hkeys n hn' with z | z
      · cases z
      · obtain ⟨q, hq, rfl⟩ := List.mem_map.mp z
        exact hnm q hq
    have hfew := few_keys hn hk5
    refine ⟨_, rfl, d, kv lks, lks.map (·.1), rfl, .inl hd', ?_, by rw [List.length_map]; omega, fun ys sl hperm hsort hsl => ⟨sl, rfl, ⟨_, SqL.of upd_same⟩, fun D hD => ?_⟩⟩
    · unfold kv
      rw [List.map_map, List.map_map]
      rfl
    have hsd : sl ≠ d := (ne_of_none hd' hsl).symm
    have hD' : H' D = none := upd_none hD
    have hslD : sl ≠ D := fun e => by rw [← e, upd_same] at hD; cases hD
    have hDd : D ≠ d := (ne_of_none hd' hD').symm
    have hslH : H sl = none := s'.free hsl
    have hDH : H D = none := s'.free hD'
    have ynd : ys.Nodup := hperm.symm.nodup hn
    have ylen : ys.length ≤ 5 := by rw [hperm.length_eq, List.length_map]; exact hfew
    refine dcl (xs := ys.map V.str) (fun i H' => Same H H' ∧ H' sl = some (.lst (ys.map V.str)) ∧ H' d = some (.dK (kv lks)) ∧ H' D = some (.dK (outK lks (ys.take i))))
      ⟨(s'.trans (same_new hsl _)).trans (same_new hD _), by rw [upd_ne hslD]; exact upd_same, by rw [upd_ne hDd.symm, upd_ne hsd.symm]; exact hd', upd_same⟩ (fun i H' _ ⟨_, h, _⟩ => SqL.of h) ?_ ?_
    · rintro i x H5 hx ⟨s6, h1, h2, h3⟩
      obtain ⟨y, hy, rfl⟩ : ∃ y, ys[i]? = some y ∧ x = V.str y := by
        rw [List.getElem?_map] at hx
        cases e : ys[i]? with
        | none => rw [e] at hx; cases hx
        | some y => rw [e] at hx; exact ⟨y, rfl, (Option.some.inj hx).symm⟩
      have hym : y ∈ lks.map (·.1) := hperm.mem_iff.mp (List.mem_of_getElem? hy)
      obtain ⟨v, hv⟩ : ∃ v, lk lks y = some v := by
        obtain ⟨q, hq, e⟩ := List.mem_map.mp hym
        unfold lk
        cases hf : lks.find? (fun p => decide (p.1 = y)) with
        | none => exact absurd (decide_eq_true e) (List.find?_eq_none.mp hf q hq)
        | some q => exact ⟨_, rfl⟩
      have hnew : valV (outK lks (ys.take i)) (Sum.inr y) = none := by
        unfold outK
        rw [val_kv]
        have : lk ((ys.take i).map fun n => (n, (lk lks n).getD "any")) y = none := by
          unfold lk
          rw [List.find?_eq_none.mpr]
          · rfl
          · intro p hp
            obtain ⟨n, hn', rfl⟩ := List.mem_map.mp hp
            simp only [decide_eq_true_eq]
            rintro rfl
            obtain ⟨j, hj⟩ := List.mem_iff_getElem?.mp hn'
            have hji : j < i := by
              by_cases z : j < i
              · exact z
              · rw [List.getElem?_take_eq_none (by omega)] at hj
                cases hj
            rw [List.getElem?_take_of_lt hji] at hj
            exact absurd (nodup_ix ynd hj hy) (by omega)
        rw [this]
        rfl
      refine ⟨rfl, ?_⟩
      refine ⟨_, rfl, _, rfl, _, rfl, d, V.str v, rfl, .inl ⟨kv lks, Sum.inr y, .inl h2, rfl, ?_⟩, outK lks (ys.take i), Sum.inr y, rfl, h3, ?_, ?_⟩
      · rw [val_kv, hv]
        rfl
      · unfold outK kv
        rw [List.length_map, List.length_map, List.length_take]
        exact sz_line (by omega)
      · rw [putK_new _ hnew]
        refine ⟨same_mut s6 hDH _, by rw [upd_ne hslD]; exact h1, by rw [upd_ne hDd.symm]; exact h2, ?_⟩
        rw [upd_same, List.take_succ, hy]
        unfold outK kv
        simp [hv]
    · rintro H5 ⟨s6, h1, h2, h3⟩
      rw [List.length_map, List.take_length] at h3
      exact q1 lks hg D H5 ys hDH s6 hperm hsort h3
end
end Mw

namespace Mw
open PySem L2
def T.dep : T → Nat
  | .nil => 0
  | .text _ r => r.dep
  | .shw _ r => r.dep
  | .num r => r.dep
  | .cho _ cs o r => max (max cs.dep o.dep + 1) r.dep
  | .cas _ m r => max m.dep r.dep
theorem dep_nodes : ∀ {t : T}, ∀ u ∈ t.nodes, u.dep ≤ t.dep
  | .nil, u, h => by cases h
  | .text s r, u, h => by
    rcases List.mem_cons.mp h with rfl | h
    · exact Nat.zero_le _
    · exact dep_nodes (t := r) u h
  | .shw s r, u, h => by
    rcases List.mem_cons.mp h with rfl | h
    · exact Nat.zero_le _
    · exact dep_nodes (t := r) u h
  | .num r, u, h => by
    rcases List.mem_cons.mp h with rfl | h
    · exact Nat.zero_le _
    · exact dep_nodes (t := r) u h
  | .cho hd cs o r, u, h => by
    rcases List.mem_cons.mp h with rfl | h
    · simp only [T.dep]
      omega
    · have := dep_nodes u h
      simp only [T.dep]
      omega
  | .cas k m r, u, h => by
    rcases List.mem_cons.mp h with rfl | h
    · simp only [T.dep]
      omega
    · have := dep_nodes u h
      simp only [T.dep]
      omega
theorem dep_msgs : ∀ {t : T}, ∀ m ∈ t.msgs, m.dep ≤ t.dep
  | .nil, u, h => by cases h
  | .text s r, u, h => by cases h
  | .shw s r, u, h => by cases h
  | .num r, u, h => by cases h
  | .cho hd cs o r, u, h => by cases h
  | .cas k m r, u, h => by
    rcases List.mem_cons.mp h with rfl | h
    · simp only [T.dep]
      omega
    · have := dep_msgs u h
      simp only [T.dep]
      omega
/-- the pairs that a list of tuples holds -/
def AL (H : Hp) : List (Str × Str) → List V → Prop
  | [], vs => vs = []
  | q :: qs, vs => ∃ a ws, vs = .ref a :: ws ∧ H a = some (.tup [.str q.1, .str q.2]) ∧ AL H qs ws
def Tk (H H' : Hp) : Prop := ∀ b xs, H b = some (.tup xs) → H' b = some (.tup xs)
theorem Tk.of {H H' : Hp} (s : Same H H') : Tk H H' := fun b xs h => s b _ h
theorem Tk.lst {H : Hp} {l : Addr} {xs ys : List V} (h : H l = some (.lst xs)) : Tk H (upd H l (.lst ys)) := fun b zs hb => by
  rw [upd_ne (fun e => by rw [e, h] at hb; cases hb)]
  exact hb
theorem AL.mono {H H' : Hp} (k : Tk H H') : ∀ {qs : List (Str × Str)} {vs : List V}, AL H qs vs → AL H' qs vs
  | [], _, h => h
  | q :: qs, _, h => by
    obtain ⟨a, ws, rfl, h1, h2⟩ := h
    exact ⟨a, ws, rfl, k _ _ h1, AL.mono k h2⟩
theorem AL.app {H : Hp} {rs : List (Str × Str)} {us : List V} (hu : AL H rs us) : ∀ {qs : List (Str × Str)} {vs : List V}, AL H qs vs → AL H (qs ++ rs) (vs ++ us)
  | [], _, h => by
    rw [show _ = [] from h]
    exact hu
  | q :: qs, _, h => by
    obtain ⟨a, ws, rfl, h1, h2⟩ := h
    exact ⟨a, ws ++ us, rfl, h1, AL.app hu h2⟩
theorem AL.length {H : Hp} : ∀ {qs : List (Str × Str)} {vs : List V}, AL H qs vs → vs.length = qs.length
  | [], _, h => by
    rw [show _ = [] from h]
    rfl
  | q :: qs, _, h => by
    obtain ⟨a, ws, rfl, h1, h2⟩ := h
    exact congrArg (· + 1) h2.length
theorem AL.get {H : Hp} : ∀ {qs : List (Str × Str)} {vs : List V} {i : Nat} {v : V}, AL H qs vs → vs[i]? = some v → ∃ q a, qs[i]? = some q ∧ v = .ref a ∧ H a = some (.tup [.str q.1, .str q.2])
  | [], _, i, v, h, e => by
    rw [show _ = [] from h] at e
    simp at e
  | q :: qs, _, 0, v, h, e => by
    obtain ⟨a, ws, rfl, h1, h2⟩ := h
    have : V.ref a = v := by simpa using e
    subst this
    exact ⟨q, a, rfl, rfl, h1⟩
  | q :: qs, _, i + 1, v, h, e => by
    obtain ⟨a, ws, rfl, h1, h2⟩ := h
    obtain ⟨q', b, e1, e2, e3⟩ := AL.get (i := i) h2 (by simpa using e)
    exact ⟨q', b, by simpa using e1, e2, e3⟩
theorem asks_len : ∀ t : T, t.asks.length ≤ t.sz
  | .nil => Nat.le_refl _
  | .text s r => by have := asks_len r; simp only [T.asks, T.sz]; omega
  | .shw s r => by have := asks_len r; simp only [T.asks, T.sz, List.length_cons]; omega
  | .num r => by have := asks_len r; simp only [T.asks, T.sz]; omega
  | .cho hd cs o r => by
    have h0 : (hdAsk hd).length ≤ 1 := by
      unfold hdAsk
      split
      · split <;> simp
      · split <;> simp
      · simp
    have h1 := asks_len cs
    have h2 := asks_len o
    have h3 := asks_len r
    simp only [T.asks, T.sz, List.length_append]
    omega
  | .cas k m r => by
    have h1 := asks_len m
    have h3 := asks_len r
    simp only [T.asks, T.sz, List.length_append]
    omega
theorem nodes_asks : ∀ t : T, t.nodes.flatMap T.asks = t.asks
  | .nil => rfl
  | .text s r => by simp [T.nodes, T.asks, nodes_asks r]
  | .shw s r => by simp [T.nodes, T.asks, nodes_asks r]
  | .num r => by simp [T.nodes, T.asks, nodes_asks r]
  | .cho hd cs o r => by simp [T.nodes, T.asks, nodes_asks r]
  | .cas k m r => by simp [T.nodes, T.asks, nodes_asks r]
theorem msgs_asks : ∀ {t : T}, Wf t true → t.msgs.flatMap T.asks = t.asks
  | .nil, _ => rfl
  | .text s r, h => by cases h.1
  | .shw s r, h => by cases h.1
  | .num r, h => by cases h.1
  | .cho hd cs o r, h => by cases h.1
  | .cas k m r, h => by simp [T.msgs, T.asks, msgs_asks h.2.2.2]
theorem fm_len : ∀ l : List T, (l.flatMap T.asks).length ≤ szs l
  | [] => Nat.le_refl _
  | u :: l => by
    have h1 := asks_len u
    have h2 := fm_len l
    rw [List.flatMap_cons, List.length_append]
    have : szs (u :: l) = u.sz + szs l := by simp [szs]
    omega
theorem fm_take {l : List T} {i : Nat} {u : T} (h : l[i]? = some u) : (l.take (i + 1)).flatMap T.asks = (l.take i).flatMap T.asks ++ u.asks := by
  rw [List.take_succ, h]
  simp
theorem own_len (u : T) : u.own.length ≤ 1 := by
  cases u <;> simp only [T.own, List.length_nil, List.length_cons] <;> try omega
  unfold hdAsk
  split
  · split <;> simp
  · split <;> simp
  · simp
theorem own_if {c : Prop} [Decidable c] (u : T) : (if c then u.own else []).length ≤ 1 := by
  split
  · exact own_len u
  · exact Nat.zero_le _
def AMid (H : Hp) (a p : Addr) (qs : List (Str × Str)) : L2.St → Hp → Prop := fun σ H2 => ∃ (fl : Addr) (vs : List V) (o3 o4 : Option V), σ = [some (.ref a), some (.ref fl), some (.ref p), o3, o4] ∧ H fl = none ∧ Same H H2 ∧ H2 fl = some (.lst vs) ∧ AL H2 qs vs
theorem amid_put {H H2 : Hp} {a p fl tt : Addr} {vs : List V} {qs : List (Str × Str)} {n k : Str} {o3 o4 : Option V} (h0 : H fl = none) (s : Same H H2) (hf : H2 fl = some (.lst vs)) (hA : AL H2 qs vs) (ht : H2 tt = none) :
    AMid H a p (qs ++ [(n, k)]) [some (.ref a), some (.ref fl), some (.ref p), o3, o4] (upd (upd H2 tt (.tup [.str n, .str k])) fl (.lst (vs ++ [.ref tt]))) := by
  have hne : tt ≠ fl := (ne_of_none hf ht).symm
  have s1 : Same H2 (upd H2 tt (.tup [.str n, .str k])) := same_new ht _
  have k2 : Tk (upd H2 tt (.tup [.str n, .str k])) (upd (upd H2 tt (.tup [.str n, .str k])) fl (.lst (vs ++ [.ref tt]))) := Tk.lst (s1 _ _ hf)
  refine ⟨fl, vs ++ [.ref tt], o3, o4, rfl, h0, same_mut (s.trans s1) h0 _, upd_same, AL.app ?_ ((hA.mono (Tk.of s1)).mono k2)⟩
  exact ⟨tt, [], rfl, by rw [upd_ne hne]; exact upd_same, rfl⟩
section
variable {P : Program} {w : World} {K : PySem.W.Frag} {mg : Str → Option Value} {base : Heap}
theorem none_left {f : Addr} {fd : FuncData} {ps : List Str} {sp : Sp} (no : ∀ vs H Q E, ¬ sp vs H Q E) : FnOk P w K mg base CX0 0 f fd ps sp :=
  ⟨fun vs H Q E h => absurd h (no vs H Q E), fun A outer s H args us vs Q E _ _ _ _ h => absurd h (no vs H Q E)⟩
theorem sz_nodes : ∀ {t : T}, ∀ u ∈ t.nodes, u.sz ≤ t.sz
  | .nil, u, h => by cases h
  | .text s r, u, h => by
    rcases List.mem_cons.mp h with rfl | h
    · simp only [T.sz]
      omega
    · have := sz_nodes u h
      simp only [T.sz]
      omega
  | .shw s r, u, h => by
    rcases List.mem_cons.mp h with rfl | h
    · simp only [T.sz]
      omega
    · have := sz_nodes u h
      simp only [T.sz]
      omega
  | .num r, u, h => by
    rcases List.mem_cons.mp h with rfl | h
    · simp only [T.sz]
      omega
    · have := sz_nodes u h
      simp only [T.sz]
      omega
  | .cho hd cs o r, u, h => by
    rcases List.mem_cons.mp h with rfl | h
    · simp only [T.sz]
      omega
    · have := sz_nodes u h
      simp only [T.sz]
      omega
  | .cas k m r, u, h => by
    rcases List.mem_cons.mp h with rfl | h
    · simp only [T.sz]
      omega
    · have := sz_nodes u h
      simp only [T.sz]
      omega
theorem sz_msgs : ∀ {t : T}, ∀ m ∈ t.msgs, m.sz ≤ t.sz
  | .nil, u, h => by cases h
  | .text s r, u, h => by cases h
  | .shw s r, u, h => by cases h
  | .num r, u, h => by cases h
  | .cho hd cs o r, u, h => by cases h
  | .cas k m r, u, h => by
    rcases List.mem_cons.mp h with rfl | h
    · simp only [T.sz]
      omega
    · have := sz_msgs u h
      simp only [T.sz]
      omega
/-! ### _law_asked -/
abbrev sAsk : Stmt := top 19
theorem scAsk : FnScope ["message", "found", "node", "key", "inner"] ["message"] (defScope sAsk) := ⟨rfl, rfl, rfl, by decide +kernel, rfl, by decide +kernel, by decide +kernel⟩
def spAsk (n : Nat) : Sp := fun vs H Q _ => ∃ (a : Addr) (t : T), vs = [.ref a] ∧ At H a t ∧ Wf t false ∧ t.dep < n ∧ t.sz < 80000 ∧ ∀ r H' ws, H r = none → Same H H' → H' r = some (.lst ws) → AL H' t.asks ws → Q (.ref r) H'
theorem ok_ask_turn {n : Nat} {f : Addr} {fd : FuncData} (F : Fun K "_law_asked" "_law_asked" sAsk f fd) (G : FnOk P w K mg base CX0 n f fd ["message"] (spAsk n)) (b : Binds K fd ["message"] []) (m : mg "_law_asked" = some (.ref f)) :
    FnOk P w K mg base CX0 (n + 1) f fd ["message"] (spAsk (n + 1)) := by
  refine F.ok scAsk (fun vs H Q E h => ?_) (fun cdv A outer s H vs Q E hr h => ?_)
  · obtain ⟨a, t, rfl, _⟩ := h
    rfl
  obtain ⟨a, t, rfl, ⟨vs, ha, hn⟩, hw, hd, hz, q⟩ := h
  have nd := scAsk.nd
  have k := F.kp
  refine ⟨_, pss_cons (ps_set (i := 1) nd rfl (.inl rfl) (pe_lst pa_nil))
    (pss_cons (ps_for PassesOwn.never rfl (pi_list (pv 0)) (pg_name (i := 2) nd rfl (.inl rfl))
        (Evl.pss_cut (ps_if (pt_cmpR op_eq (pe_ix ix_tup (pv 2) pe_int (fun _ _ => rfl)) pe_str (nomark _))
          (pss_one (ps_expr (pe_bm PySem.F.plainAttrs_list PySem.F.slot_list_append PySem.F.type_list_append mt_append (pv 1) (pa_cons (pe_tup (pa_cons (pe_ix ix_tup (pv 2) pe_int (fun _ _ => rfl)) (pa_cons pe_str pa_nil))) pa_nil)))) pss_nil)
        (Evl.pss_cut (ps_if (pt_cmpR op_eq (pe_ix ix_tup (pv 2) pe_int (fun _ _ => rfl)) pe_str (nomark _))
          (pss_one (ps_expr (pe_bm PySem.F.plainAttrs_list PySem.F.slot_list_append PySem.F.type_list_append mt_append (pv 1) (pa_cons (pe_tup (pa_cons (pe_ix ix_tup (pv 2) pe_int (fun _ _ => rfl)) (pa_cons pe_str pa_nil))) pa_nil)))) pss_nil)
        (Evl.pss_cut (ps_if (pt_cmpR op_eq (pe_ix ix_tup (pv 2) pe_int (fun _ _ => rfl)) pe_str (nomark _))
          (pss_one (ps_expr (pe_bm PySem.F.plainAttrs_list PySem.F.slot_list_append PySem.F.type_list_append mt_append (pv 1) (pa_cons (pe_tup (pa_cons (pe_ix ix_tup (pv 2) pe_int (fun _ _ => rfl)) (pa_cons pe_str pa_nil))) pa_nil)))) pss_nil)
        (pss_one (ps_if (pt_cmpR op_in_seq (pe_ix ix_tup (pv 2) pe_int (fun _ _ => rfl)) (pe_tup (pa_cons pe_str (pa_cons pe_str pa_nil))) (by rfl))
          (pss_cons (ps_for PassesOwn.never rfl (pi_list (pe_ix ix_tup (pv 2) (pe_un un_neg pe_int) (fun _ _ => rfl))) (pg_tup rfl (pgs_cons (pg_name (i := 3) nd rfl (.inl rfl)) (pgs_cons (pg_name (i := 4) nd rfl (.inl rfl)) pgs_nil)))
            (pss_one (ps_set (i := 1) nd rfl (.inl rfl) (pe_op op_cat (pv 1) (pe_call G hr rfl m k b .nil pass0 (pa_cons (pv 4) pa_nil))))))
          (pss_one (ps_set (i := 1) nd rfl (.inl rfl) (pe_op op_cat (pv 1) (pe_call G hr rfl m k b .nil pass0 (pa_cons (pe_ix ix_tup (pv 2) (pe_un un_neg pe_int) (fun _ _ => rfl)) pa_nil))))))
          pss_nil))))))
    (pss_one (ps_ret (pv 1)))), ?_⟩
  have hns := hn.ns
  refine ⟨Nat.zero_le _, fun fl0 hfl0 => ?_⟩
  have s0 : Same H (upd H fl0 (.lst [])) := same_new hfl0 _
  refine ⟨_, rfl, a, rfl, ⟨_, SqL.of (s0 _ _ ha)⟩, for_list (K := K) (a := a) (xs := vs) (fun i σ H' => ∃ (fl : Addr) (ws : List V) (o2 o3 o4 : Option V), σ = [some (.ref a), some (.ref fl), o2, o3, o4] ∧ H fl = none ∧ Same H H' ∧ H' fl = some (.lst ws) ∧ AL H' ((t.nodes.take i).flatMap T.asks) ws)
    ⟨fl0, [], none, none, none, rfl, hfl0, s0, upd_same, rfl⟩ (fun i σ H' _ ⟨_, _, _, _, _, _, _, s', _⟩ => SqL.of (s' _ _ ha)) ?_ ?_⟩
  · rintro i x σ H' hx ⟨fl, ws, o2, o3, o4, rfl, hf0, s', hf, hAL⟩
    obtain ⟨u, hu, hun⟩ := hns.get hx
    have um : u ∈ t.nodes := List.mem_of_getElem? hu
    have uw : Wf u false := nodes_wf hw u um
    obtain ⟨p, x0, xs, rfl, hp, hcase⟩ := own_of hun uw
    have hud := dep_nodes u um
    have husz := sz_nodes u um
    have hSl : ((t.nodes.take i).flatMap T.asks).length ≤ t.sz := Nat.le_trans (fm_len _) (Nat.le_trans (szs_take _ _) (Nat.le_of_eq (szs_nodes t)))
    have hnext := fm_take hu
    generalize hS : (t.nodes.take i).flatMap T.asks = S at *
    refine ⟨AMid H a p (S ++ (if x0 = "show" then u.own else [])), ?_, ?_⟩
    · refine ⟨_, rfl, p, _, 0, .str x0, rfl, rfl, .inl (.inl (s' _ _ hp)), atI_nat (j := 0) rfl, rfl, _, rfl, ite2 (fun c => ?_) (fun c => ?_)⟩
      · have e := str_eq (of_decide_eq_true c)
        rw [if_pos e]
        obtain ⟨nm, xs', rfl, hown⟩ : ∃ (nm : Str) (xs' : List V), xs = .str nm :: xs' ∧ u.own = [(nm, ("any" : Str))] := by
          subst e
          rcases hcase with ⟨nm, xs', rfl, ⟨e, o⟩ | ⟨e, o⟩ | ⟨e, o⟩⟩ | ⟨e | e, _⟩
          · first | exact ⟨nm, xs', rfl, o⟩ | exact absurd e (by decide)
          · first | exact ⟨nm, xs', rfl, o⟩ | exact absurd e (by decide)
          · first | exact ⟨nm, xs', rfl, o⟩ | exact absurd e (by decide)
          · exact absurd e (by decide)
          · exact absurd e (by decide)
        refine ⟨_, rfl, .inl ⟨rfl, _, SqL.of hf⟩, ?_⟩
        refine ⟨_, rfl, p, _, 1, .str nm, rfl, rfl, .inl (.inl (s' _ _ hp)), atI_nat (j := 1) rfl, by show 2 ≤ sizeLine; decide, fun tt htt => ?_⟩
        refine ⟨fl, _, _, rfl, rfl, same_new htt _ _ _ hf, sz_line ?_, ?_⟩
        · have e2 := hAL.length
          have e3 := own_if (c := x0 = "show") u
          have e4 := own_if (c := x0 = "select") u
          try simp only [List.length_append] at e2
          omega
        · have z := amid_put (a := a) (p := p) (o3 := o3) (o4 := o4) (n := nm) (k := ("any" : Str)) hf0 s' hf hAL htt
          rw [← hown] at z
          exact z
      · rw [if_neg (c := x0 = "show") (fun e => c (by rw [e]; exact decide_eq_true rfl)), List.append_nil]
        exact ⟨fl, ws, o3, o4, rfl, hf0, s', hf, hAL⟩
    rintro σ H' ⟨fl, ws, o3, o4, rfl, hf0, s', hf, hAL⟩
    refine ⟨AMid H a p (S ++ (if x0 = "show" then u.own else []) ++ (if x0 = "select" then u.own else [])), ?_, ?_⟩
    · refine ⟨_, rfl, p, _, 0, .str x0, rfl, rfl, .inl (.inl (s' _ _ hp)), atI_nat (j := 0) rfl, rfl, _, rfl, ite2 (fun c => ?_) (fun c => ?_)⟩
      · have e := str_eq (of_decide_eq_true c)
        rw [if_pos e]
        obtain ⟨nm, xs', rfl, hown⟩ : ∃ (nm : Str) (xs' : List V), xs = .str nm :: xs' ∧ u.own = [(nm, ("text" : Str))] := by
          subst e
          rcases hcase with ⟨nm, xs', rfl, ⟨e, o⟩ | ⟨e, o⟩ | ⟨e, o⟩⟩ | ⟨e | e, _⟩
          · first | exact ⟨nm, xs', rfl, o⟩ | exact absurd e (by decide)
          · first | exact ⟨nm, xs', rfl, o⟩ | exact absurd e (by decide)
          · first | exact ⟨nm, xs', rfl, o⟩ | exact absurd e (by decide)
          · exact absurd e (by decide)
          · exact absurd e (by decide)
        refine ⟨_, rfl, .inl ⟨rfl, _, SqL.of hf⟩, ?_⟩
        refine ⟨_, rfl, p, _, 1, .str nm, rfl, rfl, .inl (.inl (s' _ _ hp)), atI_nat (j := 1) rfl, by show 2 ≤ sizeLine; decide, fun tt htt => ?_⟩
        refine ⟨fl, _, _, rfl, rfl, same_new htt _ _ _ hf, sz_line ?_, ?_⟩
        · have e2 := hAL.length
          have e3 := own_if (c := x0 = "show") u
          have e4 := own_if (c := x0 = "select") u
          try simp only [List.length_append] at e2
          omega
        · have z := amid_put (a := a) (p := p) (o3 := o3) (o4 := o4) (n := nm) (k := ("text" : Str)) hf0 s' hf hAL htt
          rw [← hown] at z
          exact z
      · rw [if_neg (c := x0 = "select") (fun e => c (by rw [e]; exact decide_eq_true rfl)), List.append_nil]
        exact ⟨fl, ws, o3, o4, rfl, hf0, s', hf, hAL⟩
    rintro σ H' ⟨fl, ws, o3, o4, rfl, hf0, s', hf, hAL⟩
    refine ⟨AMid H a p (S ++ (if x0 = "show" then u.own else []) ++ (if x0 = "select" then u.own else []) ++ (if x0 = "plural" then u.own else [])), ?_, ?_⟩
    · refine ⟨_, rfl, p, _, 0, .str x0, rfl, rfl, .inl (.inl (s' _ _ hp)), atI_nat (j := 0) rfl, rfl, _, rfl, ite2 (fun c => ?_) (fun c => ?_)⟩
      · have e := str_eq (of_decide_eq_true c)
        rw [if_pos e]
        obtain ⟨nm, xs', rfl, hown⟩ : ∃ (nm : Str) (xs' : List V), xs = .str nm :: xs' ∧ u.own = [(nm, ("number" : Str))] := by
          subst e
          rcases hcase with ⟨nm, xs', rfl, ⟨e, o⟩ | ⟨e, o⟩ | ⟨e, o⟩⟩ | ⟨e | e, _⟩
          · first | exact ⟨nm, xs', rfl, o⟩ | exact absurd e (by decide)
          · first | exact ⟨nm, xs', rfl, o⟩ | exact absurd e (by decide)
          · first | exact ⟨nm, xs', rfl, o⟩ | exact absurd e (by decide)
          · exact absurd e (by decide)
          · exact absurd e (by decide)
        refine ⟨_, rfl, .inl ⟨rfl, _, SqL.of hf⟩, ?_⟩
        refine ⟨_, rfl, p, _, 1, .str nm, rfl, rfl, .inl (.inl (s' _ _ hp)), atI_nat (j := 1) rfl, by show 2 ≤ sizeLine; decide, fun tt htt => ?_⟩
        refine ⟨fl, _, _, rfl, rfl, same_new htt _ _ _ hf, sz_line ?_, ?_⟩
        · have e2 := hAL.length
          have e3 := own_if (c := x0 = "show") u
          have e4 := own_if (c := x0 = "select") u
          try simp only [List.length_append] at e2
          omega
        · have z := amid_put (a := a) (p := p) (o3 := o3) (o4 := o4) (n := nm) (k := ("number" : Str)) hf0 s' hf hAL htt
          rw [← hown] at z
          exact z
      · rw [if_neg (c := x0 = "plural") (fun e => c (by rw [e]; exact decide_eq_true rfl)), List.append_nil]
        exact ⟨fl, ws, o3, o4, rfl, hf0, s', hf, hAL⟩
    rintro σ H' ⟨fl, ws, o3, o4, rfl, hf0, s', hf, hAL⟩
    have hS3 : S ++ (if x0 = "show" then u.own else []) ++ (if x0 = "select" then u.own else []) ++ (if x0 = "plural" then u.own else []) = S ++ u.own := by
      rcases hcase with ⟨nm, xs', rfl, ⟨e, o⟩ | ⟨e, o⟩ | ⟨e, o⟩⟩ | ⟨_, o⟩
      · rw [if_pos e, if_neg (by rw [e]; decide), if_neg (by rw [e]; decide), List.append_nil, List.append_nil]
      · rw [if_neg (by rw [e]; decide), if_pos e, if_neg (by rw [e]; decide), List.append_nil, List.append_nil]
      · rw [if_neg (by rw [e]; decide), if_neg (by rw [e]; decide), if_pos e, List.append_nil, List.append_nil]
      · simp [o]
    rw [hS3] at hAL
    have hA5 := hAL
    clear hAL hS3
    obtain ⟨p', y, ys, e, hp', hsg, hch, _⟩ := node_of hun uw
    cases e
    have ey : y = x0 := by
      rw [hp] at hp'
      cases hp'
      rfl
    subst ey
    refine ⟨_, rfl, p, _, 0, .str y, rfl, rfl, .inl (.inl (s' _ _ hp)), atI_nat (j := 0) rfl, by show 2 ≤ sizeLine; decide, fun tp htp => ⟨tp, _, rfl, .inr (.inl (.inl upd_same)), rfl, rfl, _, rfl, ?_⟩⟩
    have e : inV (V.str y) [.str "select", .str "plural"] = u.isCho := by
      rw [in_two]
      cases hu : u.isCho with
      | true => exact decide_eq_true (hch.mpr hu)
      | false => exact decide_eq_false fun z => by rw [hch.mp z] at hu; cases hu
    have s1 : Same H' (upd H' tp (.tup [.str "select", .str "plural"])) := same_new htp _
    have s2 := s'.trans s1
    have hf2 := s1 _ _ hf
    have hAL2 := hA5.mono (Tk.of s1)
    show if inV (V.str y) [.str "select", .str "plural"] = true then _ else _
    rw [e]
    cases hc : u.isCho with
    | false =>
      refine iteF ⟨fl, ws, some (.ref p), o3, o4, rfl, hf0, s2, hf2, ?_⟩
      rw [hnext]
      have : u.asks = u.own := by
        cases u with
        | cho hd cs o r => cases hc
        | nil => cases hsg
        | text s r => cases (show r = .nil from hsg); rfl
        | shw s r => cases (show r = .nil from hsg); rfl
        | num r => cases (show r = .nil from hsg); rfl
        | cas k m r => cases uw.1
      rw [this]
      exact hAL2
    | true =>
      refine iteT ?_
      cases u with
      | cho hd' cs o r =>
        cases (show r = .nil from hsg)
        obtain ⟨p', ws', ca, cvs, oa, ovs, e, hp2, hc, hcs, ho, hos, hr'⟩ := hun
        cases e
        obtain ⟨ms, m1, m2, m3⟩ := Nodes.msgs hcs uw.2.2.1
        have hd1 : cs.dep < n ∧ o.dep < n := by
          simp only [T.dep] at hud
          omega
        simp only [T.sz] at husz
        have hown1 := own_len (T.cho hd' cs o .nil)
        have hcsl : ∀ j, ((cs.msgs.take j).flatMap T.asks).length ≤ cs.sz := fun j => Nat.le_trans (fm_len _) (Nat.le_trans (szs_take _ _) szs_msgs)
        refine ⟨_, rfl, 2, rfl, p, _, -2, .ref ca, rfl, rfl, .inl (.inl (s2 _ _ hp2)), atI_m2 _ _ _, ca, rfl, ⟨_, SqL.of (s2 _ _ hc)⟩, for_list (K := K) (a := ca) (xs := cvs) (fun j σ' H3 => ∃ (fl : Addr) (ws : List V) (o3 o4 : Option V), σ' = [some (.ref a), some (.ref fl), some (.ref p), o3, o4] ∧ H fl = none ∧ Same H H3 ∧ H3 fl = some (.lst ws) ∧ AL H3 (S ++ (T.cho hd' cs o .nil).own ++ (cs.msgs.take j).flatMap T.asks) ws)
          ⟨fl, ws, o3, o4, rfl, hf0, s2, hf2, by rw [List.take_zero]; simpa using hAL2⟩ (fun j σ' H3 _ ⟨_, _, _, _, _, _, s3, _⟩ => SqL.of (s3 _ _ hc)) ?_ ?_⟩
        · rintro j x σ' H3 hx3 ⟨fl, ws, o3, o4, rfl, hf0, s3, hf3, hAL3⟩
          obtain ⟨q1, k1, a1, rfl, hq1, hm1⟩ := m3 j x hx3
          obtain ⟨mt, ma, hmt, e, hma⟩ := m1.get hm1
          cases e
          have mm : mt ∈ cs.msgs := List.mem_of_getElem? hmt
          have md := dep_msgs mt mm
          have mz := sz_msgs mt mm
          refine ⟨q1, _, rfl, .inl (.inl (s3 _ _ hq1)), rfl, k1, _, rfl, .ref a1, [], rfl, rfl, ?_⟩
          refine ⟨_, rfl, _, rfl, a1, mt, rfl, hma.same s3, wf_msgs uw.2.2.1 mt mm, by omega, by omega, fun r1 H4 ws4 hr1 s4 hr4 hA4 => ?_⟩
          have hlen : ws.length + ws4.length < 10000000 := by
            have z1 := hAL3.length
            have z2 := hA4.length
            have z3 := asks_len mt
            have z4 := hcsl j
            simp only [List.length_append] at z1
            omega
          refine ⟨fl, r1, ws, ws4, rfl, rfl, s4 _ _ hf3, hr4, le_line hlen, fun l3 hl3 => ?_⟩
          have s5 := s3.trans s4
          refine ⟨l3, ws ++ ws4, some k1, some (.ref a1), rfl, s5.free hl3, s5.trans (same_new hl3 _), upd_same, ?_⟩
          rw [fm_take hmt, ← List.append_assoc]
          exact (AL.app hA4 (hAL3.mono (Tk.of s4))).mono (Tk.of (same_new hl3 _))
        · rintro σ' H3 ⟨fl, ws, o3, o4, rfl, hf0, s3, hf3, hAL3⟩
          rw [m2, m1.length, List.take_length, msgs_asks uw.2.2.1] at hAL3
          refine ⟨_, rfl, _, rfl, 1, rfl, p, _, -1, .ref oa, rfl, rfl, .inl (.inl (s3 _ _ hp2)), atI_m1 _ _ _, oa, o, rfl, At.same s3 ⟨ovs, ho, hos⟩, uw.2.2.2.1, by omega, by omega, fun r1 H4 ws4 hr1 s4 hr4 hA4 => ?_⟩
          have hlen : ws.length + ws4.length < 10000000 := by
            have z1 := hAL3.length
            have z2 := hA4.length
            have z3 := asks_len cs
            have z4 := asks_len o
            simp only [List.length_append] at z1
            omega
          refine ⟨fl, r1, ws, ws4, rfl, rfl, s4 _ _ hf3, hr4, le_line hlen, fun l3 hl3 => ?_⟩
          have s5 := s3.trans s4
          refine ⟨l3, ws ++ ws4, some (.ref p), o3, o4, rfl, s5.free hl3, s5.trans (same_new hl3 _), upd_same, ?_⟩
          rw [hnext]
          have e3 : S ++ (T.cho hd' cs o .nil).asks = S ++ (T.cho hd' cs o .nil).own ++ cs.asks ++ o.asks := by simp [T.asks, T.own]
          rw [e3]
          exact (AL.app hA4 (hAL3.mono (Tk.of s4))).mono (Tk.of (same_new hl3 _))
      | _ => cases hc
  · rintro σ H' ⟨fl, ws, o2, o3, o4, rfl, hf0, s', hf, hAL⟩
    refine ⟨_, rfl, ?_⟩
    rw [hns.length, List.take_length, nodes_asks] at hAL
    exact q fl H' ws hf0 s' hf hAL
theorem ok_ask {f : Addr} {fd : FuncData} (F : Fun K "_law_asked" "_law_asked" sAsk f fd) (b : Binds K fd ["message"] []) (m : mg "_law_asked" = some (.ref f)) : ∀ n, FnOk P w K mg base CX0 n f fd ["message"] (spAsk n)
  | 0 => none_left fun vs H Q E ⟨_, _, _, _, _, h, _⟩ => Nat.not_lt_zero _ h
  | n + 1 => ok_ask_turn F (ok_ask F b m n) b m
end
end Mw

namespace Mw
open PySem L2
abbrev sDue : Stmt := top 20
theorem scDue : FnScope ["message", "table", "name", "kind", "old"] ["message"] (defScope sDue) := ⟨rfl, rfl, rfl, by decide +kernel, rfl, by decide +kernel, by decide +kernel⟩
def outL (l : Ks) (ys : List Str) : Ks := ys.map fun n => (n, (lk l n).getD "any")
def spDue (m : Nat) : Sp := fun vs H Q _ => ∃ (a : Addr) (t : T), vs = [.ref a] ∧ At H a t ∧ Wf t false ∧ t.dep < m ∧ t.sz < 80000 ∧ allNames t ∧
  (∀ l, go [] t.asks = .ok l → ∀ r H' ys ws, H r = none → Same H H' → ys.Perm (l.map (·.1)) → PyProof.Rows.sortedS ys = true → H' r = some (.lst ws) → AL H' (outL l ys) ws → Q (.ref r) H') ∧
  (∀ n, go [] t.asks = .error n → ∀ H', Same H H' → Q (.str n) H')
section
variable {P : Program} {w : World} {K : PySem.W.Frag} {mg : Str → Option Value} {base : Heap}
theorem ok_due {m : Nat} {f fK : Addr} {fd fdK : FuncData} (F : Fun K "_law_due" "_law_due" sDue f fd) (GK : FnOk P w K mg base CX0 m fK fdK ["message"] (spAsk m)) (bK : Binds K fdK ["message"] []) (kK : PySem.W.keepIn K (.ref fK) = true) (mK : mg "_law_asked" = some (.ref fK)) (ms : mg "sorted" = none) :
    FnOk P w K mg base CX0 (m + 1) f fd ["message"] (spDue m) := by
  refine F.ok scDue (fun vs H Q E h => ?_) (fun cdv A outer s H vs Q E hr h => ?_)
  · obtain ⟨a, t, rfl, _⟩ := h
    rfl
  obtain ⟨a, t, rfl, ha, hw, hdp, hz, hnm, q1, q2⟩ := h
  have nd := scDue.nd
  have hu := hu_of hr
  refine ⟨_, pss_cons (ps_set (i := 1) nd rfl (.inr rfl) pe_dnewK)
    (pss_cons (ps_for PassesOwn.never rfl (pi_list (pe_call GK hr rfl mK kK bK .nil pass0 (pa_cons (pv 0) pa_nil))) (pg_tup rfl (pgs_cons (pg_name (i := 2) nd rfl (.inl rfl)) (pgs_cons (pg_name (i := 3) nd rfl (.inl rfl)) pgs_nil)))
      (pss_cons (ps_set (i := 4) nd rfl (.inl rfl) (pe_dget2 hu (pv 1) (pv 2) pe_str ⟨rfl, rfl, rfl, rfl⟩))
      (pss_one (ps_if (pt_cmpR op_eq (pv 4) pe_str (nomark _)) (pss_one (ps_dput hu (pv 1) (pv 2) (pv 3) rfl))
        (pss_one (ps_if (PW.pt (pw_and (pt_cmpR op_ne (pv 3) pe_str (nomark _)) (pw_and1 (pt_cmpR op_ne (pv 3) (pv 4) (nomark _))))) (pss_one (ps_ret (pv 2))) pss_nil))))))
    (pss_one (ps_ret (pe_lc (own := [("name", 2)]) (g := gName 2) (tt := tYes) rfl nd (pi_list (pe_callB (call_sortedD rfl) (by rfl) ms (by decide +kernel) (pa_cons (pv 1) pa_nil))) (blkOk_by (N := ["message", "table", "name", "kind", "old"]) (sc := defScope sDue) (by decide +kernel))
      (fun _ _ _ _ _ => pg_name (i := 2) nd rfl (.inl rfl)) (fun _ _ _ _ _ => pts_nil) (fun _ _ _ _ _ => pe_tup (pa_cons (pv 2) (pa_cons (pe_dget hu (pv 1) (pv 2) (fun _ _ => rfl)) pa_nil))))))), ?_⟩
  intro d hd
  have s1 : Same H (upd H d (.dK [])) := same_new hd _
  refine ⟨_, rfl, a, t, rfl, ha.same s1, hw, hdp, hz, fun l H1 ws hl s2 hl1 hAL => ⟨l, rfl, ⟨_, SqL.of hl1⟩, ?_⟩⟩
  have hd1 : H1 d = some (.dK []) := s2 _ _ upd_same
  have hld : l ≠ d := fun e => by rw [e, upd_same] at hl; cases hl
  have s3 : Same H H1 := s1.trans s2
  have hl0 : H l = none := upd_none hl
  have hlen : ws.length = t.asks.length := hAL.length
  have hall := asks_len t
  refine for_list (xs := ws) (fun i σ H' => ∃ (lks : Ks) (o2 o3 o4 : Option V), σ = [some (.ref a), some (.ref d), o2, o3, o4] ∧ Same H H' ∧ H' l = some (.lst ws) ∧ H' d = some (.dK (kv lks)) ∧ Tk H1 H' ∧
      go [] (t.asks.take i) = .ok lks ∧ (lks.map (·.1)).Nodup ∧ lks.length ≤ i)
    ⟨[], none, none, none, rfl, s3, hl1, hd1, fun _ _ z => z, rfl, List.nodup_nil, Nat.le_refl _⟩ (fun i σ H' _ ⟨_, _, _, _, _, _, h, _⟩ => SqL.of h) ?_ ?_
  · rintro i x σ H' hx ⟨lks, o2, o3, o4, rfl, s', hl', hd', ht', hg, hn, hlk⟩
    obtain ⟨⟨nm, kind⟩, p, hq, rfl, hp⟩ := hAL.get hx
    have hp' : H' p = some (.tup [.str nm, .str kind]) := ht' _ _ hp
    have hi : i < 80000 := by
      have := (List.getElem?_eq_some_iff.mp hq).1
      omega
    have hlk' : (kv lks).length < sizeLine := by
      unfold kv
      rw [List.length_map]
      exact sz_line (by omega)
    have go1 : go [] (t.asks.take (i + 1)) = match st lks (nm, kind) with | some l' => .ok l' | none => .error nm := by
      rw [List.take_succ, hq, go_app, hg]
      exact go_one lks (nm, kind)
    refine ⟨p, _, rfl, .inl (.inl hp'), rfl, .str nm, _, rfl, .str kind, [], rfl, rfl, ?_⟩
    refine ⟨_, rfl, d, rfl, .inl ⟨_, .inl hd'⟩, _, rfl, _, DGet.k (k := Sum.inr nm) hd', ?_⟩
    rw [val_kv]
    have hkn : ((lk lks nm).map V.str).getD (.str "any") = .str (kn lks nm) := by
      unfold kn
      cases lk lks nm <;> rfl
    rw [hkn]
    refine ⟨_, rfl, rfl, _, rfl, ?_⟩
    show (if decide (V.str (kn lks nm) = V.str "any") = true then _ else _)
    by_cases c : kn lks nm = "any"
    · rw [show decide (V.str (kn lks nm) = V.str "any") = true by simp [c]]
      have hst : st lks (nm, kind) = some (pt lks nm kind) := if_pos c
      obtain ⟨n1, _, n3⟩ := st_keys hst hn
      refine iteT ⟨_, rfl, _, rfl, _, rfl, d, _, rfl, DPut.k (k := Sum.inr nm) hd' hlk', ?_⟩
      refine ⟨pt lks nm kind, _, _, _, rfl, same_mut s' hd _, by rw [upd_ne hld]; exact hl', by rw [upd_same, put_kv], fun b xs hb => ?_, by rw [go1, hst], n1, by omega⟩
      rw [upd_ne (fun z => by rw [z, hd1] at hb; cases hb)]
      exact ht' _ _ hb
    · rw [show decide (V.str (kn lks nm) = V.str "any") = false by simp [c]]
      refine iteF ⟨_, rfl, rfl, _, rfl, ?_⟩
      show (if (!decide (V.str kind = V.str "any")) = true then _ else _)
      have stay : st lks (nm, kind) = some lks → ∃ (l9 : Ks) (o2 o3 o4 : Option V), [some (V.ref a), some (V.ref d), some (V.str nm), some (V.str kind), some (V.str (kn lks nm))] = [some (.ref a), some (.ref d), o2, o3, o4] ∧ Same H H' ∧ H' l = some (.lst ws) ∧ H' d = some (.dK (kv l9)) ∧ Tk H1 H' ∧
        go [] (t.asks.take (i + 1)) = .ok l9 ∧ (l9.map (·.1)).Nodup ∧ l9.length ≤ i + 1 := fun h => ⟨lks, _, _, _, rfl, s', hl', hd', ht', by rw [go1, h], hn, Nat.le_succ_of_le hlk⟩
      by_cases e : kind = "any"
      · rw [show (!decide (V.str kind = V.str "any")) = false by simp [e]]
        have hs : st lks (nm, kind) = some lks := by
          show (if kn lks nm = "any" then some (pt lks nm kind) else if kind ≠ "any" ∧ kind ≠ kn lks nm then none else some lks) = some lks
          rw [if_neg c, if_neg (fun z => z.1 e)]
        refine iteF (iteF ?_)
        obtain ⟨l2, p2, p3, p4, e1, e2, e3, e4, e5, e6, e7, e8⟩ := stay hs
        exact ⟨l2, p2, p3, p4, e1, e2, e3, e4, e5, e6, e7, e8⟩
      · rw [show (!decide (V.str kind = V.str "any")) = true by simp [e]]
        refine iteT ⟨_, rfl, _, rfl, rfl, _, rfl, ?_⟩
        show (if (!decide (V.str kind = V.str (kn lks nm))) = true then _ else _)
        by_cases e2 : kind = kn lks nm
        · rw [show (!decide (V.str kind = V.str (kn lks nm))) = false by simp [← e2]]
          have hs : st lks (nm, kind) = some lks := by
            show (if kn lks nm = "any" then some (pt lks nm kind) else if kind ≠ "any" ∧ kind ≠ kn lks nm then none else some lks) = some lks
            rw [if_neg c, if_neg (fun z => z.2 e2)]
          refine iteF ?_
          obtain ⟨l2, p2, p3, p4, e1, e2, e3, e4, e5, e6, e7, e8⟩ := stay hs
          exact ⟨l2, p2, p3, p4, e1, e2, e3, e4, e5, e6, e7, e8⟩
        · rw [show (!decide (V.str kind = V.str (kn lks nm))) = true by simp [e2]]
          refine iteT ⟨_, rfl, q2 nm ?_ H' s'⟩
          have hst : st lks (nm, kind) = none := st_none.mpr ⟨⟨e, c⟩, e2⟩
          rw [← List.take_append_drop (i + 1) t.asks, go_app, go1, hst]
  · rintro σ H' ⟨lks, o2, o3, o4, rfl, s', hl', hd', ht', hg, hn, hlk⟩
    rw [hlen, List.take_length] at hg
    have hkeys := (go_keys hg List.nodup_nil).2
    have hk5 : ∀ n ∈ lks.map (·.1), n ∈ names5 := fun n hn' => by
      rcases hkeys n hn' with z | z
      · cases z
      · obtain ⟨q, hq, rfl⟩ := List.mem_map.mp z
        exact hnm q hq
    have hfew := few_keys hn hk5
    refine ⟨_, rfl, d, kv lks, lks.map (·.1), rfl, .inl hd', ?_, by rw [List.length_map]; omega, fun ys sl hperm hsort hsl => ⟨sl, rfl, ⟨_, SqL.of upd_same⟩, fun D hD => ?_⟩⟩
    · unfold kv
      rw [List.map_map, List.map_map]
      rfl
    have hsd : sl ≠ d := (ne_of_none hd' hsl).symm
    have hD' : H' D = none := upd_none hD
    have hslD : sl ≠ D := fun e => by rw [← e, upd_same] at hD; cases hD
    have hDd : D ≠ d := (ne_of_none hd' hD').symm
    have hslH : H sl = none := s'.free hsl
    have hDH : H D = none := s'.free hD'
    have ylen : ys.length ≤ 5 := by rw [hperm.length_eq, List.length_map]; exact hfew
    refine lc_list (xs := ys.map V.str) (fun i H' => Same H H' ∧ H' sl = some (.lst (ys.map V.str)) ∧ H' d = some (.dK (kv lks)) ∧ ∃ vs, H' D = some (.lst vs) ∧ AL H' (outL lks (ys.take i)) vs)
      ⟨(s'.trans (same_new hsl _)).trans (same_new hD _), by rw [upd_ne hslD]; exact upd_same, by rw [upd_ne hDd.symm, upd_ne hsd.symm]; exact hd', [], upd_same, rfl⟩ (fun i H' _ ⟨_, h, _⟩ => SqL.of h) ?_ ?_
    · rintro i x H5 hx ⟨s6, h1, h2, vs, h3, h4⟩
      obtain ⟨y, hy, rfl⟩ : ∃ y, ys[i]? = some y ∧ x = V.str y := by
        rw [List.getElem?_map] at hx
        cases e : ys[i]? with
        | none => rw [e] at hx; cases hx
        | some y => rw [e] at hx; exact ⟨y, rfl, (Option.some.inj hx).symm⟩
      have hym : y ∈ lks.map (·.1) := hperm.mem_iff.mp (List.mem_of_getElem? hy)
      obtain ⟨v, hv⟩ : ∃ v, lk lks y = some v := by
        obtain ⟨q, hq, e⟩ := List.mem_map.mp hym
        unfold lk
        cases hf : lks.find? (fun p => decide (p.1 = y)) with
        | none => exact absurd (decide_eq_true e) (List.find?_eq_none.mp hf q hq)
        | some q => exact ⟨_, rfl⟩
      refine ⟨rfl, ?_⟩
      refine ⟨_, rfl, _, rfl, _, rfl, d, V.str v, rfl, .inl ⟨kv lks, Sum.inr y, .inl h2, rfl, ?_⟩, by show 2 ≤ sizeLine; decide, fun tt htt => ?_⟩
      · rw [val_kv, hv]
        rfl
      have s7 : Same H5 (upd H5 tt (.tup [.str y, .str v])) := same_new htt _
      have ntD : tt ≠ D := (ne_of_none h3 htt).symm
      have vl := h4.length
      refine ⟨vs, s7 _ _ h3, sz_line (by rw [vl]; unfold outL; rw [List.length_map, List.length_take]; omega), same_mut (s6.trans s7) hDH _, by rw [upd_ne hslD]; exact s7 _ _ h1, by rw [upd_ne hDd.symm]; exact s7 _ _ h2, vs ++ [.ref tt], upd_same, ?_⟩
      have e : outL lks (ys.take (i + 1)) = outL lks (ys.take i) ++ [(y, v)] := by
        rw [List.take_succ, hy]
        unfold outL
        simp [hv]
      rw [e]
      refine AL.app (show AL _ [(y, v)] [.ref tt] from ⟨tt, [], rfl, by rw [upd_ne ntD]; exact upd_same, rfl⟩) ((h4.mono (Tk.of s7)).mono (Tk.lst (s7 _ _ h3)))
    · rintro H5 ⟨s6, h1, h2, vs, h3, h4⟩
      rw [List.length_map, List.take_length] at h4
      exact q1 lks hg D H5 ys vs hDH s6 hperm hsort h3 h4
end
end Mw

namespace Mw
open PySem L2
/-! ### isinstance(e, C), e an exception of just the class C, with fields -/
structure IsC (K : PySem.W.Frag) (C : Addr) : Prop where
  cl : (PySem.W.clsIn K C).isSome = true
  ga : PySem.W.findIn K (.ref C) "__getattribute__" = some (some (.builtin "BaseException.__getattribute__"))
  gg : PySem.W.findIn K (.ref C) "__getattr__" = some none
  eb : PySem.W.subIn K (.ref C) (.type "BaseException") = some true
  ca : PySem.W.findIn K (.ref C) "__class__" = some (some (.builtin "object.__class__"))
  cg : PySem.W.specialIn K (.builtin "object.__class__") "__get__" = some (some (.builtin "getset_descriptor.__get__"))
  ct : PySem.W.takesIn K (.builtin "object.__class__") = some true
  ob : PySem.W.mroIn K C (.type "object") = some true
def rIsX (C a : Addr) (cls : Value) (d : Option Addr) : List V → Hp → VK → Prop := fun xs H Q => xs = [.ref a, .ref C] ∧ cls = .ref C ∧ ∃ dd fs, d = some dd ∧ H dd = some (.xd fs) ∧ Q (.bl true) H
theorem call_isX {X : Cx} {a C : Addr} {oe : Obj} {cls : Value} {d : Option Addr} {pn : List (Addr × Obj)} (T : IsC X.K C) (hz : Zc cls d oe) (hf : ∃ vs, oe.data = .fields vs) : CallR (X.suite a ((a, oe) :: pn)) (.builtin "isinstance") (rIsX C a cls d) := by
  intro pins s σ H xs us Q I r h
  obtain ⟨rfl, rfl, dd, fs, rfl, hdd, q⟩ := h
  cases r with
  | cons rx rr =>
    cases rr with
    | cons rt rr =>
      cases rr
      cases rx
      cases rt
      obtain ⟨hget, _⟩ := I.pin (a, oe) (List.mem_append.mpr (.inl List.mem_cons_self))
      obtain ⟨vs, hv⟩ := hf
      have hx : ObjOk X.prog X.w H s.heap dd (.xd fs) := I.hok dd _ hdd
      obtain ⟨mA, hns, _⟩ := hx
      obtain ⟨od, ho, _⟩ := lookIn_ns hns
      have J : PySem.W.InstAt s.heap a oe C (some od) := ⟨hget, hz.1, by unfold PySem.W.notCls; rw [hv] <;> rfl, by rw [hz.2]; exact ho⟩
      have e1 : PySem.W.kitOne X.K (.ref C) (.ref C) = some true := if_pos (by simp)
      exact PySem.W.kia_one (PySem.W.kitx_exc T.cl T.ga T.gg T.eb T.ca T.cg T.ct T.ob) I.kIn J e1 (fun z => nomatch z) fun tk => ⟨.bl true, H, I.kept (t' := tk) fun _ _ z => z, rfl, q⟩
theorem AL.of {H : Hp} : ∀ {qs : Ks} {ts : List Addr}, Paired (fun (t : Addr) (q : L2.Key × V) => H t = some (.tup [kV q.1, q.2])) ts (kv qs) → AL H qs (ts.map V.ref)
  | [], ts, h => by
    cases h
    rfl
  | q :: qs, ts, h => by
    cases h with
    | cons h t => exact ⟨_, _, rfl, h, AL.of t⟩
abbrev sTold : Stmt := top 21
theorem scTold : FnScope ["message", "e"] ["message"] (defScope sTold) := ⟨rfl, rfl, rfl, by decide +kernel, rfl, by decide +kernel, by decide +kernel⟩
def spTold : Sp := fun vs H Q _ => ∃ (a : Addr) (t : T), vs = [.ref a] ∧ At H a t ∧ Wf t false ∧ t.sz < 80000 ∧ allNames t ∧
  (∀ l, go [] t.asks = .ok l → ∀ r H' ys ws, H r = none → Same H H' → ys.Perm (l.map (·.1)) → PyProof.Rows.sortedS ys = true → H' r = some (.lst ws) → AL H' (outL l ys) ws → Q (.ref r) H') ∧
  (∀ n, go [] t.asks = .error n → ∀ H', Same H H' → Q (.str n) H')
section
variable {P : Program} {w : World} {K : PySem.W.Frag} {mg : Str → Option Value} {base : Heap}
theorem ok_told {f fK C M : Addr} {fd fdK : FuncData} (F : Fun K "_law_told" "_law_told" sTold f fd) (GK : FnOk P w K mg base (L2.CX P w) 4 fK fdK ["message"] (spKinds C)) (bK : Binds K fdK ["message"] []) (kK : PySem.W.keepIn K (.ref fK) = true) (mK : mg "kinds_of" = some (.ref fK))
    (ml : mg "list" = none) (mi : mg "isinstance" = none) (mM : mg "MessagewaysError" = some (.ref M)) (mB : mg "BadMessage" = some (.ref C)) (T : IsC K C) (Xf : XfC K C) (no : PySem.W.findIn K (.ref C) "name" = some none) (ex : PySem.W.exmOne K (.ref C) (.ref M) = some true) :
    FnOk P w K mg base CX0 5 f fd ["message"] spTold := by
  refine F.ok scTold (fun vs H Q E h => ?_) (fun cdv A outer s H vs Q E hr h => ?_)
  · obtain ⟨a, t, rfl, _⟩ := h
    rfl
  obtain ⟨a, t, rfl, ha, hw, hz, hnm, q1, q2⟩ := h
  have nd := scTold.nd
  refine ⟨_, pss_one (ps_try_as (i := 1) (tb := fun W => tRet (LiI.tListItems (tCallS (spKinds C) (WE W) (tCons (tVar 0) tNil)))) (ts := fun a cls d => tSeq (tIfS (tB (tCB (rIsX C a cls d) (tCons (tVar 1) (tCons (tC (.ref C)) tNil)))) (tRet (tXf a cls d C "name" (tVar 1))) tNext) (tRet (tC (.int 0)))) (Wout := fun _ _ _ _ => False) rfl rfl nd rfl rfl ⟨rfl, by decide, .inl mM⟩ takes0
    (fun W pn xe tk _ => pss_one (ps_ret (by exact LiI.pe_listItems rfl (pe_callS GK hr rfl mK kK bK (fun σ => passAt tk σ) (by exact (pa_cons (pv 0) pa_nil))) rfl ml (by decide +kernel))))
    (fun a oe cls d pn hz hf => pss_cons (ps_if (pt_val (by exact (pe_callB (call_isX T hz hf) (by rfl) mi PyProof.Rows.boot_isinstance (pa_cons (pv 1) (pa_cons (pe_glob rfl mB (v := .ref C) rfl) pa_nil))))) (pss_one (ps_ret (by exact (pe_xf Xf no hz hf (pv 1))))) pss_nil) (pss_one (ps_ret pe_int)))), ?_⟩
  refine ⟨_, rfl, a, t, rfl, ha, hw, hz, hnm, fun l hg d H' ys hd s' hperm hsort hd' => ?_, fun n hg dx H' hdx s' hx => ?_⟩
  · refine ⟨d, outK l ys, rfl, hd', fun H2 p ts k2 hp hts hpt hl hP => ?_⟩
    have s2 : Same H' H2 := fun b o e => k2 b o e
    exact q1 l hg p H2 ys _ (s'.free hp) (s'.trans s2) hperm hsort hl (AL.of hP)
  · refine ⟨true, ex, fun _ e he => ?_, fun z => Bool.noConfusion z⟩
    refine ⟨_, rfl, rfl, rfl, dx, _, rfl, hx, _, rfl, ?_⟩
    refine iteT ?_
    exact ⟨_, rfl, rfl, rfl, dx, _, _, rfl, hx, rfl, q2 n hg H' s'⟩
end
end Mw

namespace Mw
open PySem L2
/-! ### one arrangement of the names -/
abbrev leS (a b : Str) : Prop := PySem.Spec.ltCps b.cps.toList a.cps.toList = false
theorem le_tr : ∀ x ∈ names5, ∀ y ∈ names5, ∀ z ∈ names5, leS x y → leS y z → leS x z := by decide +kernel
theorem le_as : ∀ x ∈ names5, ∀ y ∈ names5, leS x y → leS y x → x = y := by decide +kernel
theorem ris_pw : ∀ (l : List Str) (p : Str), p ∈ names5 → (∀ n ∈ l, n ∈ names5) → PyProof.Rows.risingS p l = true → (∀ n ∈ l, leS p n) ∧ l.Pairwise leS
  | [], _, _, _, _ => ⟨(fun _ h => by cases h), List.Pairwise.nil⟩
  | x :: r, p, hp, hl, h => by
    have h : (!PySem.Spec.ltCps x.cps.toList p.cps.toList && PyProof.Rows.risingS x r) = true := h
    rw [Bool.and_eq_true] at h
    have hx := hl x List.mem_cons_self
    obtain ⟨i1, i2⟩ := ris_pw r x hx (fun n hn => hl n (List.mem_cons_of_mem _ hn)) h.2
    have h1 : leS p x := by simpa using h.1
    refine ⟨fun n hn => ?_, .cons i1 i2⟩
    rcases List.mem_cons.mp hn with rfl | hn
    · exact h1
    · exact le_tr p hp x hx n (hl n (List.mem_cons_of_mem _ hn)) h1 (i1 n hn)
theorem srt_pw {l : List Str} (hl : ∀ n ∈ l, n ∈ names5) (h : PyProof.Rows.sortedS l = true) : l.Pairwise leS := by
  cases l with
  | nil => exact .nil
  | cons x r =>
    obtain ⟨i1, i2⟩ := ris_pw r x (hl x List.mem_cons_self) (fun n hn => hl n (List.mem_cons_of_mem _ hn)) h
    exact .cons i1 i2
theorem one_way : ∀ {a b : List Str}, a.Perm b → (∀ n ∈ a, n ∈ names5) → a.Pairwise leS → b.Pairwise leS → a = b
  | [], b, h, _, _, _ => (List.nil_perm.mp h).symm
  | x :: r, b, h, hn, h1, h2 => by
    cases b with
    | nil => exact absurd h.length_eq (by simp)
    | cons y s =>
      have hb : ∀ n ∈ y :: s, n ∈ names5 := fun n hm => hn n (h.mem_iff.mpr hm)
      have e : x = y := by
        rcases List.mem_cons.mp (h.mem_iff.mp (List.mem_cons_self (a := x) (l := r))) with e | hx
        · exact e
        · rcases List.mem_cons.mp (h.mem_iff.mpr (List.mem_cons_self (a := y) (l := s))) with e | hy
          · exact e.symm
          · exact le_as x (hn x List.mem_cons_self) y (hb y List.mem_cons_self) ((List.pairwise_cons.mp h1).1 y hy) ((List.pairwise_cons.mp h2).1 x hx)
      subst e
      rw [one_way (List.Perm.cons_inv h) (fun n hm => hn n (List.mem_cons_of_mem _ hm)) (List.pairwise_cons.mp h1).2 (List.pairwise_cons.mp h2).2]
/-! ### what is told, as plain data -/
def kinds3 : List Str := ["any", "text", "number"]
theorem k3a : ("any" : Str) ∈ kinds3 := by decide
theorem k3t : ("text" : Str) ∈ kinds3 := by decide
theorem k3n : ("number" : Str) ∈ kinds3 := by decide
theorem asks_k : ∀ t : T, ∀ p ∈ t.asks, p.2 ∈ kinds3
  | .nil, p, h => by cases h
  | .text s r, p, h => asks_k r p h
  | .shw n r, p, h => by
    rcases List.mem_cons.mp h with rfl | h
    · exact k3a
    · exact asks_k r p h
  | .num r, p, h => asks_k r p h
  | .cho hd cs o r, p, h => by
    rcases List.mem_append.mp h with h | h
    · rcases List.mem_append.mp h with h | h
      · rcases List.mem_append.mp h with h | h
        · unfold hdAsk at h
          split at h
          · split at h
            · rw [List.mem_singleton] at h
              subst h
              exact k3t
            · cases h
          · split at h
            · rw [List.mem_singleton] at h
              subst h
              exact k3n
            · cases h
          · cases h
        · exact asks_k cs p h
      · exact asks_k o p h
    · exact asks_k r p h
  | .cas k m r, p, h => by
    rcases List.mem_append.mp h with h | h
    · exact asks_k m p h
    · exact asks_k r p h
theorem pt_k {l : Ks} {n k : Str} (h : ∀ p ∈ l, p.2 ∈ kinds3) (hk : k ∈ kinds3) : ∀ p ∈ pt l n k, p.2 ∈ kinds3 := by
  intro p hp
  unfold pt at hp
  split at hp
  · obtain ⟨q, hq, rfl⟩ := List.mem_map.mp hp
    split
    · exact hk
    · exact h q hq
  · rcases List.mem_append.mp hp with hp | hp
    · exact h p hp
    · rw [List.mem_singleton] at hp
      subst hp
      exact hk
theorem go_k : ∀ {a : List (Str × Str)} {l l' : Ks}, (∀ p ∈ a, p.2 ∈ kinds3) → (∀ p ∈ l, p.2 ∈ kinds3) → go l a = .ok l' → ∀ p ∈ l', p.2 ∈ kinds3
  | [], l, l', _, hl, h => by
    have : l = l' := by simpa [go] using h
    subst this
    exact hl
  | q :: r, l, l', ha, hl, h => by
    cases hs : st l q with
    | none =>
      rw [show go l (q :: r) = .error q.1 by simp [go, hs]] at h
      cases h
    | some l1 =>
      rw [show go l (q :: r) = go l1 r by simp [go, hs]] at h
      refine go_k (fun p hp => ha p (List.mem_cons_of_mem _ hp)) ?_ h
      unfold st at hs
      split at hs
      · cases hs
        exact pt_k hl (ha q List.mem_cons_self)
      · split at hs
        · cases hs
        · cases hs
          exact hl
def dpl (q : Str × Str) : PyData := .tuple [.str q.1, .str q.2]
theorem AL.dp {K : PySem.W.Frag} {H : Hp} : ∀ {qs : Ks} {vs : List V}, AL H qs vs → DpAll K H vs (qs.map dpl)
  | [], _, h => by
    rw [show _ = [] from h]
    exact .nil
  | q :: qs, _, h => by
    obtain ⟨a, ws, rfl, h1, h2⟩ := h
    exact .cons (.tup (.inl (.inl h1)) (.cons (.str _) (.cons (.str _) .nil))) (AL.dp h2)
theorem one_ok : ∀ n ∈ names5, ∀ k ∈ kinds3, (dpl (n, k)).canLay0 = true ∧ (dpl (n, k)).depth ≤ 1 := by decide +kernel
theorem name_ok : ∀ n ∈ names5, SeqAt.shaped (.str n) = true := by decide +kernel
theorem all_ok : ∀ {qs : Ks}, (∀ q ∈ qs, q.1 ∈ names5 ∧ q.2 ∈ kinds3) → PyData.canLayAll0 (qs.map dpl) = true ∧ PyData.depthAll (qs.map dpl) ≤ 1
  | [], _ => ⟨rfl, Nat.zero_le _⟩
  | q :: qs, h => by
    obtain ⟨i1, i2⟩ := all_ok (qs := qs) fun x hx => h x (List.mem_cons_of_mem _ hx)
    obtain ⟨a1, a2⟩ := one_ok q.1 (h q List.mem_cons_self).1 q.2 (h q List.mem_cons_self).2
    refine ⟨?_, ?_⟩
    · show ((dpl (q.1, q.2)).canLay0 && PyData.canLayAll0 (qs.map dpl)) = true
      rw [a1, i1]
      rfl
    · show max (dpl (q.1, q.2)).depth (PyData.depthAll (qs.map dpl)) ≤ 1
      omega
theorem told_ok {qs : Ks} (h : ∀ q ∈ qs, q.1 ∈ names5 ∧ q.2 ∈ kinds3) : SeqAt.shaped (.list (qs.map dpl)) = true := by
  obtain ⟨h1, h2⟩ := all_ok h
  unfold SeqAt.shaped
  rw [Bool.and_eq_true]
  refine ⟨h1, decide_eq_true ?_⟩
  show PyData.depthAll (qs.map dpl) + 1 ≤ 64
  omega
/-- the two that are told are one, and fit for == -/
theorem outL_ok {t : T} {l : Ks} {ys : List Str} (hn : allNames t) (h : go [] t.asks = .ok l) (hp : ys.Perm (l.map (·.1))) : (∀ n ∈ ys, n ∈ names5) ∧ ∀ q ∈ outL l ys, q.1 ∈ names5 ∧ q.2 ∈ kinds3 := by
  have hk := (go_keys h List.nodup_nil).2
  have a1 : ∀ n ∈ ys, n ∈ names5 := fun n hm => by
    rcases hk n (hp.mem_iff.mp hm) with z | z
    · cases z
    · obtain ⟨q, hq, rfl⟩ := List.mem_map.mp z
      exact hn q hq
  have hv := go_k (asks_k t) (fun p h => by cases h) h
  refine ⟨a1, fun q hq => ?_⟩
  obtain ⟨n, hm, rfl⟩ := List.mem_map.mp hq
  refine ⟨a1 n hm, ?_⟩
  show (lk l n).getD "any" ∈ kinds3
  unfold lk
  cases hf : l.find? (fun p => decide (p.1 = n)) with
  | none => decide
  | some p => exact hv p (List.mem_of_find?_eq_some hf)
/-! ### what the builder makes -/
theorem keysW : (∀ v ∈ skeys, KeyW v) ∧ ∀ v ∈ pkeys, KeyW v := by
  refine ⟨fun v h => ?_, fun v h => ?_⟩
  · obtain ⟨s, _, rfl⟩ := List.mem_map.mp h
    exact .inl ⟨s, rfl⟩
  · rcases List.mem_append.mp h with h | h
    · obtain ⟨i, _, rfl⟩ := List.mem_map.mp h
      exact .inr ⟨i, rfl⟩
    · obtain ⟨s, _, rfl⟩ := List.mem_map.mp h
      exact .inl ⟨s, rfl⟩
theorem hdok_w {hd ks : List V} {i j : Bool} (h : HdOk hd i j ks) : HdW hd ∧ (∀ p ∈ hdAsk hd, p.1 ∈ names5) ∧ ∀ v ∈ ks, KeyW v := by
  cases h with
  | @sel n _ _ hn hk =>
    refine ⟨.inl ⟨n, rfl⟩, fun p hp => ?_, fun v h => keysW.1 v (hk.subset h)⟩
    have hp : p ∈ [(n, ("text" : Str))] := hp
    rw [List.mem_singleton] at hp
    subst hp
    rcases hn with rfl | rfl <;> decide
  | @plu n off _ _ hn ho hk =>
    refine ⟨.inr ⟨n, off, rfl⟩, fun p hp => ?_, fun v h => keysW.2 v ?_⟩
    · have hp : p ∈ [(n, ("number" : Str))] := hp
      rw [List.mem_singleton] at hp
      subst hp
      rcases hn with rfl | rfl <;> decide
    · rcases hk with hk | hk
      · exact hk.subset h
      · exact List.mem_reverse.mp (hk.subset h)
theorem Gd.w : ∀ {t : T} {c : Bool} {d : Nat} {i : Bool}, Gd t c d i → (c = true → ∀ v ∈ t.keys, KeyW v) → Wf t c ∧ t.dep ≤ d ∧ allNames t
  | .nil, _, _, _, _, _ => ⟨trivial, Nat.zero_le _, fun p h => by cases h⟩
  | .text s r, c, d, i, h, _ => by
    obtain ⟨h1, h2, h3⟩ := Gd.w h.2.2.2 fun e => by rw [h.1] at e; cases e
    exact ⟨⟨h.1, h1⟩, h2, h3⟩
  | .shw n r, c, d, i, h, _ => by
    obtain ⟨h1, h2, h3⟩ := Gd.w h.2.2 fun e => by rw [h.1] at e; cases e
    refine ⟨⟨h.1, h1⟩, h2, fun p hp => ?_⟩
    rcases List.mem_cons.mp hp with rfl | hp
    · have a : ∀ n ∈ names4, n ∈ names5 := by decide +kernel
      exact a n h.2.1
    · exact h3 p hp
  | .num r, c, d, i, h, _ => by
    obtain ⟨h1, h2, h3⟩ := Gd.w h.2.2 fun e => by rw [h.1] at e; cases e
    exact ⟨⟨h.1, h1⟩, h2, h3⟩
  | .cho hd cs o r, c, d, i, h, _ => by
    obtain ⟨e, j, rfl, hh, g1, g2⟩ := h.2.1
    obtain ⟨a1, a2, a3⟩ := hdok_w hh
    obtain ⟨h1, h2, h3⟩ := Gd.w h.2.2 fun e => by rw [h.1] at e; cases e
    obtain ⟨b1, b2, b3⟩ := Gd.w g1 fun _ => a3
    obtain ⟨c1, c2, c3⟩ := Gd.w g2 fun e => by cases e
    refine ⟨⟨h.1, a1, b1, c1, h1⟩, ?_, fun p hp => ?_⟩
    · simp only [T.dep]
      omega
    · rcases List.mem_append.mp hp with hp | hp
      · rcases List.mem_append.mp hp with hp | hp
        · rcases List.mem_append.mp hp with hp | hp
          · exact a2 p hp
          · exact b3 p hp
        · exact c3 p hp
      · exact h3 p hp
  | .cas k m r, c, d, i, h, hk => by
    have hk' := hk h.1
    obtain ⟨h1, h2, h3⟩ := Gd.w h.2.2 fun _ v hv => hk' v (by simp [T.keys, hv])
    obtain ⟨b1, b2, b3⟩ := Gd.w h.2.1 fun e => by cases e
    refine ⟨⟨h.1, hk' k (by simp [T.keys]), b1, h1⟩, ?_, fun p hp => ?_⟩
    · simp only [T.dep]
      omega
    · rcases List.mem_append.mp hp with hp | hp
      · exact b3 p hp
      · exact h3 p hp
theorem wf_app {u : T} {c : Bool} (hu : Wf u c) : ∀ {t : T}, Wf t c → Wf (t.app u) c
  | .nil, _ => hu
  | .text s r, h => ⟨h.1, wf_app hu h.2⟩
  | .shw s r, h => ⟨h.1, wf_app hu h.2⟩
  | .num r, h => ⟨h.1, wf_app hu h.2⟩
  | .cho hd cs o r, h => ⟨h.1, h.2.1, h.2.2.1, h.2.2.2.1, wf_app hu h.2.2.2.2⟩
  | .cas k m r, h => ⟨h.1, h.2.1, h.2.2.1, wf_app hu h.2.2.2⟩
theorem dep_app' (u : T) : ∀ t : T, (t.app u).dep = max t.dep u.dep
  | .nil => by simp [T.app, T.dep]
  | .text s r => by simp only [T.app, T.dep, dep_app' u r]
  | .shw s r => by simp only [T.app, T.dep, dep_app' u r]
  | .num r => by simp only [T.app, T.dep, dep_app' u r]
  | .cho hd cs o r => by simp only [T.app, T.dep, dep_app' u r]; omega
  | .cas k m r => by simp only [T.app, T.dep, dep_app' u r]; omega
theorem asks_app (u : T) : ∀ t : T, (t.app u).asks = t.asks ++ u.asks
  | .nil => rfl
  | .text s r => by simp [T.app, T.asks, asks_app u r]
  | .shw s r => by simp [T.app, T.asks, asks_app u r]
  | .num r => by simp [T.app, T.asks, asks_app u r]
  | .cho hd cs o r => by simp [T.app, T.asks, asks_app u r]
  | .cas k m r => by simp [T.app, T.asks, asks_app u r]
end Mw

namespace Mw
open PySem L2
section
variable {P : Program} {w : World} {K : PySem.W.Frag} {mg : Str → Option Value} {base : Heap}
abbrev sLaw : Stmt := top 22
theorem scLaw : FnScope ["script", "box", "message"] ["script"] (defScope sLaw) := ⟨rfl, rfl, rfl, by decide +kernel, rfl, by decide +kernel, by decide +kernel⟩
def spLaw (K : PySem.W.Frag) : Sp := fun vs H Q _ => ∃ (a : Addr) (ns : List Int), vs = [.ref a] ∧ SqL K H a (ns.map V.int) ∧ ∀ H', Q (.bl true) H'
/-- the message as it is being built, seen from the heap with the box -/
def LM (H0 : Hp) (a B d : Addr) (N : Nat) : L2.St → Hp → Prop := fun σ H' => ∃ (r : Addr) (t : T), σ = [some (.ref a), some (.ref B), some (.ref r)] ∧ Go B H0 H' ∧ Box H' B d ∧ At (fr H0 H') r t ∧ Wf t false ∧ t.dep ≤ 2 ∧ t.sz < N ∧ allNames t
/-- a list of one node that is put to a message -/
theorem node_put {H0 H : Hp} {p ca oa : Addr} {hd cvs ovs : List V} {cs o : T} (hp0 : H0 p = none) (hc0 : H0 ca = none) (ho0 : H0 oa = none) (hp : H p = some (.tup (hd ++ [.ref ca, .ref oa]))) (hc : H ca = some (.lst cvs)) (hcs : Nodes (fr H0 H) cs cvs) (ho : H oa = some (.lst ovs)) (hos : Nodes (fr H0 H) o ovs) :
    Nodes (fr H0 H) (.cho hd cs o .nil) [.ref p] :=
  ⟨p, [], ca, cvs, oa, ovs, rfl, by rw [fr_new hp0]; exact hp, by rw [fr_new hc0]; exact hc, hcs, by rw [fr_new ho0]; exact ho, hos, rfl⟩
theorem ok_law {f fG fM fD fT fU : Addr} {fd fdG fdM fdD fdT fdU : FuncData} (F : Fun K "law" "law" sLaw f fd)
    (gG : FnOk P w K mg base CX0 2 fG fdG ["script", "first", "last"] (spDigits K)) (bG : Binds K fdG ["script", "first", "last"] []) (kG : PySem.W.keepIn K (.ref fG) = true) (mG : mg "_law_digits" = some (.ref fG))
    (gM2 : FnOk P w K mg base CX0 7 fM fdM ["box", "depth", "inside"] (spMsg 2)) (gM1 : FnOk P w K mg base CX0 5 fM fdM ["box", "depth", "inside"] (spMsg 1)) (bM : Binds K fdM ["box", "depth", "inside"] []) (kM : PySem.W.keepIn K (.ref fM) = true) (mM : mg "_law_message" = some (.ref fM))
    (gD : FnOk P w K mg base CX0 1 fD fdD ["box", "many"] spDraw) (bD : Binds K fdD ["box", "many"] []) (kD : PySem.W.keepIn K (.ref fD) = true) (mD : mg "_law_draw" = some (.ref fD))
    (gT : FnOk P w K mg base CX0 5 fT fdT ["message"] spTold) (bT : Binds K fdT ["message"] []) (kT : PySem.W.keepIn K (.ref fT) = true) (mT : mg "_law_told" = some (.ref fT))
    (gU : FnOk P w K mg base CX0 4 fU fdU ["message"] (spDue 3)) (bU : Binds K fdU ["message"] []) (kU : PySem.W.keepIn K (.ref fU) = true) (mU : mg "_law_due" = some (.ref fU)) :
    FnOk P w K mg base CX0 8 f fd ["script"] (spLaw K) := by
  refine F.ok scLaw (fun vs H Q E h => ?_) (fun cdv A outer s H vs Q E hr h => ?_)
  · obtain ⟨a, ns, rfl, _⟩ := h
    rfl
  obtain ⟨a, ns, rfl, hS, q⟩ := h
  have nd := scLaw.nd
  refine ⟨_, pss_cons (ps_set (i := 1) nd rfl (.inl rfl) (pe_lst (pa_cons (pe_call gG (hr.mono (by decide)) rfl mG kG bG .nil pass0 (pa_cons (pv 0) (pa_cons pe_int (pa_cons pe_int pa_nil)))) (pa_cons pe_int pa_nil))))
    (pss_cons (ps_set (i := 2) nd rfl (.inl rfl) (pe_call gM2 (hr.mono (by decide)) rfl mM kM bM .nil pass0 (pa_cons (pv 1) (pa_cons pe_int (pa_cons pe_bl pa_nil)))))
    (Evl.pss_cut (ps_if (pt_cmpR op_eq (pe_call gD (hr.mono (by decide)) rfl mD kD bD .nil pass0 (pa_cons (pv 1) (pa_cons pe_int pa_nil))) pe_int (nomark _))
      (pss_one (ps_set (i := 2) nd rfl (.inl rfl) (pe_op op_cat (pv 2) (pe_lst (pa_cons (pe_tup (pa_cons pe_str (pa_cons (pe_ix ix_list (pe_lst (pa_cons pe_str (pa_cons pe_str pa_nil))) (pe_call gD (hr.mono (by decide)) rfl mD kD bD .nil pass0 (pa_cons (pv 1) (pa_cons pe_int pa_nil))) (fun _ _ => rfl))
        (pa_cons (pe_lst pa_nil) (pa_cons (pe_call gM1 (hr.mono (by decide)) rfl mM kM bM .nil pass0 (pa_cons (pv 1) (pa_cons pe_int (pa_cons pe_bl pa_nil)))) pa_nil))))) pa_nil))))) pss_nil)
    (Evl.pss_cut (ps_if (pt_cmpR op_eq (pe_call gD (hr.mono (by decide)) rfl mD kD bD .nil pass0 (pa_cons (pv 1) (pa_cons pe_int pa_nil))) pe_int (nomark _))
      (pss_one (ps_set (i := 2) nd rfl (.inl rfl) (pe_op op_cat (pe_lst (pa_cons (pe_tup (pa_cons pe_str (pa_cons (pe_ix ix_list (pe_lst (pa_cons pe_str (pa_cons pe_str pa_nil))) (pe_call gD (hr.mono (by decide)) rfl mD kD bD .nil pass0 (pa_cons (pv 1) (pa_cons pe_int pa_nil))) (fun _ _ => rfl))
        (pa_cons pe_int (pa_cons (pe_lst pa_nil) (pa_cons (pe_lst (pa_cons (pe_tup (pa_cons pe_str (pa_cons pe_str pa_nil))) pa_nil)) pa_nil)))))) pa_nil)) (pv 2)))) pss_nil)
    (pss_one (ps_ret (pe_cmpR (op_eqD hr.units) (pe_call gT (hr.mono (by decide)) rfl mT kT bT .nil pass0 (pa_cons (pv 2) pa_nil)) (pe_call gU (hr.mono (by decide)) rfl mU kU bU .nil pass0 (pa_cons (pv 2) pa_nil)) (nomark _))))))), ?_⟩
  refine ⟨_, rfl, a, ns, rfl, hS, fun d H1 ds hd0 s1 hd => ⟨by show 2 ≤ sizeLine; decide, fun B hB => ?_⟩⟩
  have ndB : d ≠ B := ne_of_none hd hB
  generalize hH0 : upd H1 B (.lst [.ref d, .int 0]) = H0
  have hB0 : H0 B = some (.lst [.ref d, .int 0]) := by rw [← hH0]; exact upd_same
  have hbox : Box H0 B d := ⟨ds, 0, hB0, by rw [← hH0, upd_ne ndB]; exact hd, Int.le_refl 0⟩
  refine ⟨_, rfl, B, d, false, rfl, hbox, fun r H3 t g3 hb3 hat hgd hsz hlen => ?_⟩
  obtain ⟨tw, td, tn⟩ := Gd.w hgd fun e => by cases e
  have hLM : LM H0 a B d 23000 [some (.ref a), some (.ref B), some (.ref r)] H3 := ⟨r, t, rfl, g3, hb3, hat, tw, td, Nat.lt_of_le_of_lt hsz (by decide), tn⟩
  refine ⟨LM H0 a B d 25000, ?_, ?_⟩
  · refine ⟨_, rfl, B, d, 2, rfl, by decide, hb3, fun z H4 z0 z2 g4 hb4 => ?_⟩
    have hat4 := hat.same (fr_go hB0 g4)
    refine ⟨rfl, _, rfl, ite2 (fun c => ?_) (fun c => ?_)⟩
    · refine ⟨_, rfl, ?_⟩
      refine ⟨by show 2 ≤ sizeLine; decide, fun wl hwl => ?_⟩
      have hb4a := hb4.new hwl (.lst [.str "n", .str "w"])
      have hwB := hb4.neB hwl
      refine ⟨_, rfl, B, d, 2, rfl, by decide, hb4a, fun y H5 y0 y2 g5 hb5 => ?_⟩
      obtain ⟨nm, hnm, hat5⟩ := pick (l := (["n", "w"] : List Str)) (g := V.str) (z := y) y0 (by show y < ((2 : Nat) : Int); omega)
      refine ⟨wl, _, y, .str nm, rfl, rfl, SqL.of (g5.ext _ _ hwB upd_same), hat5, ?_⟩
      refine ⟨Nat.zero_le _, fun l2 hl2 => ?_⟩
      have hb5a := hb5.new hl2 (.lst [])
      have hl2B := hb5.neB hl2
      refine ⟨_, rfl, B, d, false, rfl, hb5a, fun r2 H7 t2 g7 hb7 hat7 hgd7 hsz7 hlen7 => ?_⟩
      obtain ⟨tw2, td2, tn2⟩ := Gd.w hgd7 fun e => by cases e
      refine ⟨by show 4 ≤ sizeLine; decide, fun p hp => ⟨by show 1 ≤ sizeLine; decide, fun l3 hl3 => ?_⟩⟩
      have hpB := hb7.neB hp
      have hb8 := hb7.new hp (.tup [.str "select", .str nm, .ref l2, .ref r2])
      have hb9 := hb8.new hl3 (.lst [.ref p])
      obtain ⟨vs, hrv, hnv⟩ := hat4
      obtain ⟨vs2, hrv2, hnv2⟩ := hat7
      have G04 : Go B H0 H4 := g3.trans g4
      have G05 : Go B H0 (upd H5 l2 (.lst [])) := ((G04.trans (Go.new hwl _)).trans g5).trans (Go.new hl2 _)
      have G07 : Go B H0 H7 := G05.trans g7
      have G79 : Go B H7 (upd (upd H7 p (.tup [.str "select", .str nm, .ref l2, .ref r2])) l3 (.lst [.ref p])) := (Go.new hp _).trans (Go.new hl3 _)
      have G49 : Go B H4 (upd (upd H7 p (.tup [.str "select", .str nm, .ref l2, .ref r2])) l3 (.lst [.ref p])) := ((((Go.new hwl _).trans g5).trans (Go.new hl2 _)).trans g7).trans G79
      have rB : r ≠ B := by
        rintro rfl
        rw [fr_old hB0] at hrv
        cases hrv
      have hrv' := (fr_in hrv).2
      have vl : vs.length ≤ t.sz := by rw [hnv.length]; exact len_sz t
      refine ⟨r, l3, vs, [.ref p], rfl, rfl, G49.ext _ _ rB hrv', upd_same, le_line (by show vs.length + 1 < 10000000; have := Nat.lt_of_le_of_lt hsz (show msgW 2 < 23000 by decide); omega), fun l4 hl4 => ?_⟩
      have G910 := Go.new (B := B) hl4 (.lst (vs ++ [.ref p]))
      have hp0 : H0 p = none := G07.dom p hp
      have hl20 : H0 l2 = none := ((G04.trans (Go.new hwl _)).trans g5).dom l2 hl2
      have hr20 := fr_in hrv2
      have hr2B : r2 ≠ B := by
        rintro rfl
        obtain ⟨o, ho⟩ := hb5a.isB
        rw [ho] at hr20
        cases hr20.1
      have S2 : Same (fr (upd H5 l2 (.lst [])) H7) (fr H0 (upd (upd (upd H7 p (.tup [.str "select", .str nm, .ref l2, .ref r2])) l3 (.lst [.ref p])) l4 (.lst (vs ++ [.ref p])))) := (fr_dom G05.dom).trans (fr_go hB0 (G79.trans G910))
      have szb := Nat.le_trans hsz7 (show msgW 1 ≤ 1000 by decide)
      have sza := Nat.lt_of_le_of_lt hsz (show msgW 2 < 23000 by decide)
      refine ⟨l4, t.app (.cho [.str "select", .str nm] .nil t2 .nil), rfl, (G04.trans G49).trans G910, hb9.new hl4 _, ⟨vs ++ [.ref p], by rw [fr_new ((G04.trans G49).dom l4 hl4)]; exact upd_same, Nodes.app ?_ (Nodes.same (fr_go hB0 (G49.trans G910)) hnv)⟩, wf_app (show Wf (.cho [.str "select", .str nm] .nil t2 .nil) false from ⟨rfl, .inl ⟨nm, rfl⟩, trivial, tw2, trivial⟩) tw, ?_, ?_, ?_⟩
      · exact node_put (hd := [.str "select", .str nm]) hp0 hl20 (G05.dom _ hr20.1) (((Go.new (B := B) hl3 _).trans G910).ext _ _ hpB upd_same) ((g7.trans (G79.trans G910)).ext _ _ hl2B upd_same) (show Nodes _ .nil [] from rfl) ((G79.trans G910).ext _ _ hr2B hr20.2) (Nodes.same S2 hnv2)
      · rw [dep_app']
        simp only [T.dep]
        omega
      · rw [T.app_sz]
        simp only [T.sz]
        omega
      · intro q hq
        rw [asks_app] at hq
        rcases List.mem_append.mp hq with hq | hq
        · exact tn q hq
        · have hq : q ∈ [(nm, ("text" : Str))] ++ [] ++ t2.asks ++ [] := hq
          simp only [List.append_nil] at hq
          rcases List.mem_append.mp hq with hq | hq
          · rw [List.mem_singleton] at hq
            subst hq
            have a : ∀ n ∈ (["n", "w"] : List Str), n ∈ names5 := by decide +kernel
            exact a nm hnm
          · exact tn2 q hq
    · exact ⟨r, t, rfl, g3.trans g4, hb4, hat4, tw, td, Nat.lt_of_le_of_lt hsz (by decide), tn⟩
  rintro σ H5 ⟨r, t, rfl, g5, hb5, hat5, tw5, td5, tz5, tn5⟩
  refine ⟨LM H0 a B d 26000, ?_, ?_⟩
  · refine ⟨_, rfl, B, d, 3, rfl, by decide, hb5, fun z H6 z0 z2 g6 hb6 => ?_⟩
    have hat6 := hat5.same (fr_go hB0 g6)
    refine ⟨rfl, _, rfl, ite2 (fun c => ?_) (fun c => ?_)⟩
    · refine ⟨by show 2 ≤ sizeLine; decide, fun wl hwl => ?_⟩
      have hb6a := hb6.new hwl (.lst [.str "w", .str "kind"])
      have hwB := hb6.neB hwl
      refine ⟨_, rfl, B, d, 2, rfl, by decide, hb6a, fun y H7 y0 y2 g7 hb7 => ?_⟩
      obtain ⟨nm, hnm, hatn⟩ := pick (l := (["w", "kind"] : List Str)) (g := V.str) (z := y) y0 (by show y < ((2 : Nat) : Int); omega)
      refine ⟨wl, _, y, .str nm, rfl, rfl, SqL.of (g7.ext _ _ hwB upd_same), hatn, ?_⟩
      refine ⟨Nat.zero_le _, fun l2 hl2 => ?_⟩
      have hl2B := hb7.neB hl2
      have hb8 := hb7.new hl2 (.lst [])
      refine ⟨by show 2 ≤ sizeLine; decide, fun q1 hq1 => ⟨by show 1 ≤ sizeLine; decide, fun l5 hl5 => ?_⟩⟩
      have hq1B := hb8.neB hq1
      have hb9 := hb8.new hq1 (.tup [.str "show", .str "n"])
      have hl5B := hb9.neB hl5
      have hb10 := hb9.new hl5 (.lst [.ref q1])
      refine ⟨by show 5 ≤ sizeLine; decide, fun p hp => ⟨by show 1 ≤ sizeLine; decide, fun l3 hl3 => ?_⟩⟩
      have hpB := hb10.neB hp
      have hb11 := hb10.new hp (.tup [.str "plural", .str nm, .int 0, .ref l2, .ref l5])
      have hl3B := hb11.neB hl3
      have hb12 := hb11.new hl3 (.lst [.ref p])
      obtain ⟨vs, hrv, hnv⟩ := hat6
      have rB : r ≠ B := by
        rintro rfl
        rw [fr_old hB0] at hrv
        cases hrv
      have hrv' := (fr_in hrv).2
      have G06 : Go B H0 H6 := g5.trans g6
      have G07 : Go B H0 H7 := (G06.trans (Go.new hwl _)).trans g7
      have G67 : Go B H6 H7 := (Go.new hwl _).trans g7
      have C2 := Go.new (B := B) hl2 (.lst [])
      have C1 := Go.new (B := B) hq1 (.tup [.str "show", .str "n"])
      have C5 := Go.new (B := B) hl5 (.lst [.ref q1])
      have Cp := Go.new (B := B) hp (.tup [.str "plural", .str nm, .int 0, .ref l2, .ref l5])
      have C3 := Go.new (B := B) hl3 (.lst [.ref p])
      have G6z := ((((G67.trans C2).trans C1).trans C5).trans Cp).trans C3
      have vl : vs.length ≤ t.sz := by rw [hnv.length]; exact len_sz t
      refine ⟨_, rfl, l3, r, [.ref p], vs, rfl, rfl, upd_same, G6z.ext _ _ rB hrv', le_line (by show 1 + vs.length < 10000000; omega), fun l4 hl4 => ?_⟩
      have C4 := Go.new (B := B) hl4 (.lst ([.ref p] ++ vs))
      have hl20 : H0 l2 = none := G07.dom l2 hl2
      have hq10 : H0 q1 = none := (G07.trans C2).dom q1 hq1
      have hl50 : H0 l5 = none := ((G07.trans C2).trans C1).dom l5 hl5
      have hp0 : H0 p = none := (((G07.trans C2).trans C1).trans C5).dom p hp
      have hnode := node_put (H := upd (upd (upd (upd (upd (upd H7 l2 (.lst [])) q1 (.tup [.str "show", .str "n"])) l5 (.lst [.ref q1])) p (.tup [.str "plural", .str nm, .int 0, .ref l2, .ref l5])) l3 (.lst [.ref p])) l4 (.lst ([.ref p] ++ vs)))
        (hd := [.str "plural", .str nm, .int 0]) (cs := .nil) (o := .shw "n" .nil) hp0 hl20 hl50 ((C3.trans C4).ext _ _ hpB upd_same) (((((C1.trans C5).trans Cp).trans C3).trans C4).ext _ _ hl2B upd_same) (show Nodes _ .nil [] from rfl) (((Cp.trans C3).trans C4).ext _ _ hl5B upd_same)
        ⟨q1, [], rfl, by rw [fr_new hq10]; exact ((((C5.trans Cp).trans C3).trans C4).ext _ _ hq1B upd_same), rfl⟩
      refine ⟨l4, .cho [.str "plural", .str nm, .int 0] .nil (.shw "n" .nil) t, rfl, (G06.trans G6z).trans C4, hb12.new hl4 _, ⟨[.ref p] ++ vs, by rw [fr_new ((G06.trans G6z).dom l4 hl4)]; exact upd_same, ?_⟩, ⟨rfl, .inr ⟨nm, 0, rfl⟩, trivial, ⟨rfl, trivial⟩, tw5⟩, ?_, ?_, ?_⟩
      · exact Nodes.app (Nodes.same (fr_go hB0 (G6z.trans C4)) hnv) hnode
      · simp only [T.dep]
        omega
      · have e1 : ("n" : Str).length = 1 := rfl
        simp only [T.sz]
        omega
      · intro q hq
        have hq : q ∈ [(nm, ("number" : Str))] ++ [] ++ [(("n" : Str), ("any" : Str))] ++ t.asks := hq
        rcases List.mem_append.mp hq with hq | hq
        · have a : ∀ n ∈ (["w", "kind"] : List Str), n ∈ names5 := by decide +kernel
          have b : ("n" : Str) ∈ names5 := by decide +kernel
          simp only [List.append_nil, List.mem_append, List.mem_singleton] at hq
          rcases hq with rfl | rfl
          · exact a nm hnm
          · exact b
        · exact tn5 q hq
    · exact ⟨r, t, rfl, g5.trans g6, hb6, hat6, tw5, td5, by omega, tn5⟩
  rintro σ H6 ⟨r, t, rfl, g6, hb6, hat6, tw6, td6, tz6, tn6⟩
  have hA : At H6 r t := hat6.same fr_out
  refine ⟨_, rfl, r, t, rfl, hA, tw6, by omega, tn6, fun l hg r1 H7 ys1 ws1 hr1 s7 hp1 hs1 hl1 hA1 => ?_, fun n hg H7 s7 => ?_⟩
  · refine ⟨_, rfl, r, t, rfl, hA.same s7, tw6, by omega, by omega, tn6, fun l2 hg2 r2 H8 ys2 ws2 hr2 s8 hp2 hs2 hl2 hA2 => ?_, fun n hg2 => ?_⟩
    · rw [hg] at hg2
      cases hg2
      obtain ⟨n1, k1⟩ := outL_ok tn6 hg hp1
      obtain ⟨n2, k2⟩ := outL_ok tn6 hg hp2
      have ey : ys1 = ys2 := one_way (hp1.trans hp2.symm) n1 (srt_pw n1 hs1) (srt_pw n2 hs2)
      subst ey
      refine ⟨_, _, .lst (SqL.of (s8 _ _ hl1)) (AL.dp (hA1.mono (Tk.of s8))), .lst (SqL.of hl2) (AL.dp hA2), told_ok k1, told_ok k1, ?_⟩
      rw [SeqAt.eqv_refl _ (SeqAt.canLay_of_shaped (told_ok k1))]
      exact q H8
    · rw [hg] at hg2
      cases hg2
  · refine ⟨_, rfl, r, t, rfl, hA.same s7, tw6, by omega, by omega, tn6, fun l2 hg2 => ?_, fun n2 hg2 H8 s8 => ?_⟩
    · rw [hg] at hg2
      cases hg2
    · rw [hg] at hg2
      cases hg2
      have hn5 : n ∈ names5 := by
        have : ∀ (a : List (Str × Str)) (l : Ks), go l a = .error n → n ∈ a.map (·.1) := by
          intro a
          induction a with
          | nil => intro l h; cases h
          | cons p r ih =>
            intro l h
            cases hs : st l p with
            | some l' =>
              rw [show go l (p :: r) = go l' r by simp [go, hs]] at h
              exact List.mem_cons_of_mem _ (ih l' h)
            | none =>
              rw [show go l (p :: r) = .error p.1 by simp [go, hs]] at h
              cases h
              exact List.mem_cons_self
        obtain ⟨p, hp, rfl⟩ := List.mem_map.mp (this _ _ hg)
        exact tn6 p hp
      refine ⟨_, _, .str n, .str n, name_ok n hn5, name_ok n hn5, ?_⟩
      rw [SeqAt.eqv_refl _ (SeqAt.canLay_of_shaped (name_ok n hn5))]
      exact q H8
end
end Mw

namespace Mw
open PySem L2
theorem both {P : Program} {w : World} {K : PySem.W.Frag} {mg : Str → Option Value} {base : Heap} {fD fT fS fP fM : Addr} {fdD fdT fdS fdP fdM : FuncData}
    (GD : FnOk P w K mg base CX0 1 fD fdD ["box", "many"] spDraw) (bD : Binds K fdD ["box", "many"] []) (kD : PySem.W.keepIn K (.ref fD) = true) (mD : mg "_law_draw" = some (.ref fD))
    (GT : FnOk P w K mg base CX0 2 fT fdT ["box"] spString) (bT : Binds K fdT ["box"] []) (kT : PySem.W.keepIn K (.ref fT) = true) (mT : mg "_law_string" = some (.ref fT))
    (FS : Fun K "_law_select" "_law_select" sSel fS fdS) (bS : Binds K fdS ["box", "depth", "inside"] []) (mS : mg "_law_select" = some (.ref fS))
    (FP : Fun K "_law_plural" "_law_plural" sPlu fP fdP) (bP : Binds K fdP ["box", "depth"] []) (mP : mg "_law_plural" = some (.ref fP))
    (FM : Fun K "_law_message" "_law_message" sMsg fM fdM) (bM : Binds K fdM ["box", "depth", "inside"] []) (mM : mg "_law_message" = some (.ref fM)) (mr : mg "range" = none) (ml : mg "len" = none) :
    ∀ d, FnOk P w K mg base CX0 (2 * d + 3) fM fdM ["box", "depth", "inside"] (spMsg d)
  | 0 => ok_msg (k := 2) (Nat.le_refl _) FM GD bD kD mD GT bT kT mT ((none_left fun vs H Q E ⟨_, _, _, e, h, _⟩ => by omega).mono (Nat.zero_le _)) bS FS.kp mS ((none_left fun vs H Q E ⟨_, _, e, h, _⟩ => by omega).mono (Nat.zero_le _)) bP FP.kp mP mr ml
  | d + 1 => by
    have ih := both GD bD kD mD GT bT kT mT FS bS mS FP bP mP FM bM mM mr ml d
    have hs := ok_sel (k := 2 * d + 3) (by omega) FS GD bD kD mD ih bM FM.kp mM
    have hp := ok_plu (k := 2 * d + 3) (by omega) FP GD bD kD mD ih bM FM.kp mM
    exact ok_msg (k := 2 * d + 4) (by omega) FM GD bD kD mD GT bT kT mT hs bS FS.kp mS hp bP FP.kp mP mr ml
theorem all_mk {l : PySem.W.OpenLaw} {w : World} {K : PySem.W.Frag} {h : Heap} {mg : Str → Option Value} {fa f1 f2 f3 f4 f5 f6 f7 f8 f9 f10 f11 f12 f13 f14 f15 f16 f17 C M kd fB cc cda : Addr} (X : K.In h) (G : h.Ns mainGlobals mg) (hfa : mg "law" = some (.ref fa))
    {od1 an1 od2 an2 od3 an3 od4 an4 od5 an5 od6 an6 od7 an7 od8 an8 od9 an9 od10 an10 od11 an11 od12 an12 od13 an13 od14 an14 od15 an15 od16 an16 od17 an17 odB anB cdd cd0 dd : Option Addr} {sl1 sl2 sl3 sl4 sl5 sl6 sl7 sl8 sl9 sl10 sl11 sl12 sl13 sl14 sl15 sl16 sl17 slB ccs cs0 : Array (Option Value)} {oc1 kV1 dc1 pm1 cd1 ct1 oc2 kV2 dc2 pm2 cd2 ct2 oc3 kV3 dc3 pm3 cd3 ct3 oc4 kV4 dc4 pm4 cd4 ct4 oc5 kV5 dc5 pm5 cd5 ct5 oc6 kV6 dc6 pm6 cd6 ct6 oc7 kV7 dc7 pm7 cd7 ct7 oc8 kV8 dc8 pm8 cd8 ct8 oc9 kV9 dc9 pm9 cd9 ct9 oc10 kV10 dc10 pm10 cd10 ct10 oc11 kV11 dc11 pm11 cd11 ct11 oc12 kV12 dc12 pm12 cd12 ct12 oc13 kV13 dc13 pm13 cd13 ct13 oc14 kV14 dc14 pm14 cd14 ct14 oc15 kV15 dc15 pm15 cd15 ct15 oc16 kV16 dc16 pm16 cd16 ct16 oc17 kV17 dc17 pm17 cd17 ct17 ocB kVB dcB pmB ctB ccl ce0 : Value}
    {nm qn file : Str} {N : Addr} {bs sub : List Value} {sn : List Str} {ab : Bool} {col : Option Bool} {m0 m1 m2 m3 m5 : Option Value} {cvs : Array Value} {tf t1 t2 t3 : Tok} {es : Array DictEntry} {en : Nat}
    (a1 : PySem.W.nsIn K mainGlobals "is_choice" = some (some (.ref f1))) (l1 : K.lookup f1 = some ⟨oc1, od1, .func (PySem.W.fnOf "is_choice" "is_choice" (defArgs sIs) (defBody sIs) (defScope sIs) .none kV1 dc1 pm1 an1 cd1 ct1), sl1⟩) (c1 : PySem.W.codeIn K cd1 "is_choice" = true) (k1 : PySem.W.keepIn K (.ref f1) = true)
    (a2 : PySem.W.nsIn K mainGlobals "cases_of" = some (some (.ref f2))) (l2 : K.lookup f2 = some ⟨oc2, od2, .func (PySem.W.fnOf "cases_of" "cases_of" (defArgs sCases) (defBody sCases) (defScope sCases) .none kV2 dc2 pm2 an2 cd2 ct2), sl2⟩) (c2 : PySem.W.codeIn K cd2 "cases_of" = true) (k2 : PySem.W.keepIn K (.ref f2) = true)
    (a3 : PySem.W.nsIn K mainGlobals "other_of" = some (some (.ref f3))) (l3 : K.lookup f3 = some ⟨oc3, od3, .func (PySem.W.fnOf "other_of" "other_of" (defArgs sOther) (defBody sOther) (defScope sOther) .none kV3 dc3 pm3 an3 cd3 ct3), sl3⟩) (c3 : PySem.W.codeIn K cd3 "other_of" = true) (k3 : PySem.W.keepIn K (.ref f3) = true)
    (a4 : PySem.W.nsIn K mainGlobals "inner_messages" = some (some (.ref f4))) (l4 : K.lookup f4 = some ⟨oc4, od4, .func (PySem.W.fnOf "inner_messages" "inner_messages" (defArgs sInner) (defBody sInner) (defScope sInner) .none kV4 dc4 pm4 an4 cd4 ct4), sl4⟩) (c4 : PySem.W.codeIn K cd4 "inner_messages" = true) (k4 : PySem.W.keepIn K (.ref f4) = true)
    (a5 : PySem.W.nsIn K mainGlobals "all_nodes" = some (some (.ref f5))) (l5 : K.lookup f5 = some ⟨oc5, od5, .func (PySem.W.fnOf "all_nodes" "all_nodes" (defArgs sAll) (defBody sAll) (defScope sAll) .none kV5 dc5 pm5 an5 cd5 ct5), sl5⟩) (c5 : PySem.W.codeIn K cd5 "all_nodes" = true) (k5 : PySem.W.keepIn K (.ref f5) = true)
    (a6 : PySem.W.nsIn K mainGlobals "kinds_of" = some (some (.ref f6))) (l6 : K.lookup f6 = some ⟨oc6, od6, .func (PySem.W.fnOf "kinds_of" "kinds_of" (defArgs sKinds) (defBody sKinds) (defScope sKinds) .none kV6 dc6 pm6 an6 cd6 ct6), sl6⟩) (c6 : PySem.W.codeIn K cd6 "kinds_of" = true) (k6 : PySem.W.keepIn K (.ref f6) = true)
    (a7 : PySem.W.nsIn K mainGlobals "_law_cell" = some (some (.ref f7))) (l7 : K.lookup f7 = some ⟨oc7, od7, .func (PySem.W.fnOf "_law_cell" "_law_cell" (defArgs sCell) (defBody sCell) (defScope sCell) .none kV7 dc7 pm7 an7 cd7 ct7), sl7⟩) (c7 : PySem.W.codeIn K cd7 "_law_cell" = true) (k7 : PySem.W.keepIn K (.ref f7) = true)
    (a8 : PySem.W.nsIn K mainGlobals "_law_digits" = some (some (.ref f8))) (l8 : K.lookup f8 = some ⟨oc8, od8, .func (PySem.W.fnOf "_law_digits" "_law_digits" (defArgs sDigits) (defBody sDigits) (defScope sDigits) .none kV8 dc8 pm8 an8 cd8 ct8), sl8⟩) (c8 : PySem.W.codeIn K cd8 "_law_digits" = true) (k8 : PySem.W.keepIn K (.ref f8) = true)
    (a9 : PySem.W.nsIn K mainGlobals "_law_draw" = some (some (.ref f9))) (l9 : K.lookup f9 = some ⟨oc9, od9, .func (PySem.W.fnOf "_law_draw" "_law_draw" (defArgs sDraw) (defBody sDraw) (defScope sDraw) .none kV9 dc9 pm9 an9 cd9 ct9), sl9⟩) (c9 : PySem.W.codeIn K cd9 "_law_draw" = true) (k9 : PySem.W.keepIn K (.ref f9) = true)
    (a10 : PySem.W.nsIn K mainGlobals "_law_string" = some (some (.ref f10))) (l10 : K.lookup f10 = some ⟨oc10, od10, .func (PySem.W.fnOf "_law_string" "_law_string" (defArgs sString) (defBody sString) (defScope sString) .none kV10 dc10 pm10 an10 cd10 ct10), sl10⟩) (c10 : PySem.W.codeIn K cd10 "_law_string" = true) (k10 : PySem.W.keepIn K (.ref f10) = true)
    (a11 : PySem.W.nsIn K mainGlobals "_law_select" = some (some (.ref f11))) (l11 : K.lookup f11 = some ⟨oc11, od11, .func (PySem.W.fnOf "_law_select" "_law_select" (defArgs sSel) (defBody sSel) (defScope sSel) .none kV11 dc11 pm11 an11 cd11 ct11), sl11⟩) (c11 : PySem.W.codeIn K cd11 "_law_select" = true) (k11 : PySem.W.keepIn K (.ref f11) = true)
    (a12 : PySem.W.nsIn K mainGlobals "_law_plural" = some (some (.ref f12))) (l12 : K.lookup f12 = some ⟨oc12, od12, .func (PySem.W.fnOf "_law_plural" "_law_plural" (defArgs sPlu) (defBody sPlu) (defScope sPlu) .none kV12 dc12 pm12 an12 cd12 ct12), sl12⟩) (c12 : PySem.W.codeIn K cd12 "_law_plural" = true) (k12 : PySem.W.keepIn K (.ref f12) = true)
    (a13 : PySem.W.nsIn K mainGlobals "_law_message" = some (some (.ref f13))) (l13 : K.lookup f13 = some ⟨oc13, od13, .func (PySem.W.fnOf "_law_message" "_law_message" (defArgs sMsg) (defBody sMsg) (defScope sMsg) .none kV13 dc13 pm13 an13 cd13 ct13), sl13⟩) (c13 : PySem.W.codeIn K cd13 "_law_message" = true) (k13 : PySem.W.keepIn K (.ref f13) = true)
    (a14 : PySem.W.nsIn K mainGlobals "_law_asked" = some (some (.ref f14))) (l14 : K.lookup f14 = some ⟨oc14, od14, .func (PySem.W.fnOf "_law_asked" "_law_asked" (defArgs sAsk) (defBody sAsk) (defScope sAsk) .none kV14 dc14 pm14 an14 cd14 ct14), sl14⟩) (c14 : PySem.W.codeIn K cd14 "_law_asked" = true) (k14 : PySem.W.keepIn K (.ref f14) = true)
    (a15 : PySem.W.nsIn K mainGlobals "_law_due" = some (some (.ref f15))) (l15 : K.lookup f15 = some ⟨oc15, od15, .func (PySem.W.fnOf "_law_due" "_law_due" (defArgs sDue) (defBody sDue) (defScope sDue) .none kV15 dc15 pm15 an15 cd15 ct15), sl15⟩) (c15 : PySem.W.codeIn K cd15 "_law_due" = true) (k15 : PySem.W.keepIn K (.ref f15) = true)
    (a16 : PySem.W.nsIn K mainGlobals "_law_told" = some (some (.ref f16))) (l16 : K.lookup f16 = some ⟨oc16, od16, .func (PySem.W.fnOf "_law_told" "_law_told" (defArgs sTold) (defBody sTold) (defScope sTold) .none kV16 dc16 pm16 an16 cd16 ct16), sl16⟩) (c16 : PySem.W.codeIn K cd16 "_law_told" = true) (k16 : PySem.W.keepIn K (.ref f16) = true)
    (a17 : PySem.W.nsIn K mainGlobals "law" = some (some (.ref f17))) (l17 : K.lookup f17 = some ⟨oc17, od17, .func (PySem.W.fnOf "law" "law" (defArgs sLaw) (defBody sLaw) (defScope sLaw) .none kV17 dc17 pm17 an17 cd17 ct17), sl17⟩) (c17 : PySem.W.codeIn K cd17 "law" = true) (k17 : PySem.W.keepIn K (.ref f17) = true)
    (aC : PySem.W.nsIn K mainGlobals "BadMessage" = some (some (.ref C)))
    (aM : PySem.W.nsIn K mainGlobals "MessagewaysError" = some (some (.ref M)))
    (aK : PySem.W.nsIn K mainGlobals "ASKED_KINDS" = some (some (.ref kd)))
    (xC : K.lookup C = some (excClassObj nm qn C N bs [.ref M, .type "ValueError", .type "Exception", .type "BaseException", .type "object"] true sn sub ab col dd m0 m1 m2 m3 m5 "ValueError.__new__"))
    (sa : PySem.W.findIn K (.ref C) "__setattr__" = some (some (.builtin "object.__setattr__")))
    (ga : PySem.W.findIn K (.ref C) "__getattribute__" = some (some (.builtin "BaseException.__getattribute__")))
    (gg : PySem.W.findIn K (.ref C) "__getattr__" = some none)
    (no : PySem.W.findIn K (.ref C) "name" = some none)
    (iC : PySem.W.findIn K (.ref C) "__init__" = some (some (.ref fB)))
    (tI : PySem.W.typeIn K (.ref fB) = some (.type "function"))
    (lB : K.lookup fB = some ⟨ocB, odB, .func (PySem.W.fnX "__init__" "BadMessage.__init__" (defArgs sBad) (defBody sBad) (defScope sBad) [("__class__", cc)] .none kVB dcB pmB anB (.ref cda) ctB), slB⟩)
    (cB : PySem.W.codeIn K (.ref cda) "BadMessage.__init__" = true)
    (lc : K.lookup cda = some ⟨ccl, cdd, .fields cvs, ccs⟩)
    (hv : cvs[2]? = some (.str file tf))
    (hf : ((l.prog.main.file : Str) == file) = true)
    (lx : K.lookup cc = some ⟨ce0, cd0, .cell (some (.ref C)), cs0⟩)
    (mr : PySem.W.mroIn K C (.ref C) = some true)
    (sm : PySem.W.ks_superIn K C C "__init__" = some (some (.builtin "ValueError.__init__")))
    (op : PySem.W.nsIn K cStatics "thirdparty.any" = some none)
    (iV : PySem.W.subIn K (.ref C) (.type "ValueError") = some true)
    (eb : PySem.W.subIn K (.ref C) (.type "BaseException") = some true)
    (tC : PySem.W.typeIn K (.ref C) = some (.type "type"))
    (kC : PySem.W.keepIn K (.ref C) = true)
    (hdC : PySem.W.hasDictIn K C = true)
    (ca : PySem.W.findIn K (.ref C) "__class__" = some (some (.builtin "object.__class__")))
    (cg : PySem.W.specialIn K (.builtin "object.__class__") "__get__" = some (some (.builtin "getset_descriptor.__get__")))
    (ct : PySem.W.takesIn K (.builtin "object.__class__") = some true)
    (ob : PySem.W.mroIn K C (.type "object") = some true)
    (ebM : PySem.W.subIn K (.ref M) (.type "BaseException") = some true)
    (hdM : PySem.W.hasDictIn K M = true)
    (tM : PySem.W.typeIn K (.ref M) = some (.type "type"))
    (sCM : PySem.W.subIn K (.ref C) (.ref M) = some true)
    (xK : K.lookup kd = some ⟨.type "dict", none, .dict es en, #[]⟩)
    (lit : PySem.W.KeysLit w.params es.toList)
    (low : (kd == sysModules) = false)
    (e1 : PySem.W.nsIn K kd "show" = some (some (.str "any" t1)))
    (e2 : PySem.W.nsIn K kd "select" = some (some (.str "text" t2)))
    (e3 : PySem.W.nsIn K kd "plural" = some (some (.str "number" t3)))
    (n1 : PySem.W.nsIn K kd "text" = some none)
    (n2 : PySem.W.nsIn K kd "number" = some none)
    (top : (l.prog.main.scope.names.lookup ("super" : Str)).isSome = false)
    (z1 : PySem.W.nsIn K mainGlobals "len" = some none) (z2 : PySem.W.nsIn K mainGlobals "list" = some none) (z3 : PySem.W.nsIn K mainGlobals "range" = some none) (z4 : PySem.W.nsIn K mainGlobals "int" = some none) (z5 : PySem.W.nsIn K mainGlobals "sorted" = some none) (z6 : PySem.W.nsIn K mainGlobals "isinstance" = some none) (z7 : PySem.W.nsIn K mainGlobals "super" = some none) :
    ∃ fd : FuncData, (∀ (s : Shared) (v : Value), BindsTo s fd ⟨[v], []⟩ [("script", v)]) ∧ ∀ base : Heap, K.In base → base.Ns mainGlobals mg → FnOk l.prog w K mg base CX0 8 fa fd ["script"] (spLaw K) := by
  have e := hfa.symm.trans (PySem.W.mg_of X G a17)
  cases e
  have F1 := fun_mk (st := sIs) l1 c1 k1
  have F2 := fun_mk (st := sCases) l2 c2 k2
  have F3 := fun_mk (st := sOther) l3 c3 k3
  have F4 := fun_mk (st := sInner) l4 c4 k4
  have F5 := fun_mk (st := sAll) l5 c5 k5
  have F6 := fun_mk (st := sKinds) l6 c6 k6
  have F7 := fun_mk (st := sCell) l7 c7 k7
  have F8 := fun_mk (st := sDigits) l8 c8 k8
  have F9 := fun_mk (st := sDraw) l9 c9 k9
  have F10 := fun_mk (st := sString) l10 c10 k10
  have F11 := fun_mk (st := sSel) l11 c11 k11
  have F12 := fun_mk (st := sPlu) l12 c12 k12
  have F13 := fun_mk (st := sMsg) l13 c13 k13
  have F14 := fun_mk (st := sAsk) l14 c14 k14
  have F15 := fun_mk (st := sDue) l15 c15 k15
  have F16 := fun_mk (st := sTold) l16 c16 k16
  have F17 := fun_mk (st := sLaw) l17 c17 k17
  have b1 := F1.binds (ps := ["node"]) fun _ _ _ _ _ _ us hl => match us, hl with | [_], _ => rfl
  have b2 := F2.binds (ps := ["node"]) fun _ _ _ _ _ _ us hl => match us, hl with | [_], _ => rfl
  have b3 := F3.binds (ps := ["node"]) fun _ _ _ _ _ _ us hl => match us, hl with | [_], _ => rfl
  have b4 := F4.binds (ps := ["node"]) fun _ _ _ _ _ _ us hl => match us, hl with | [_], _ => rfl
  have b5 := F5.binds (ps := ["message"]) fun _ _ _ _ _ _ us hl => match us, hl with | [_], _ => rfl
  have b6 := F6.binds (ps := ["message"]) fun _ _ _ _ _ _ us hl => match us, hl with | [_], _ => rfl
  have b7 := F7.binds (ps := ["script", "k"]) fun _ _ _ _ _ _ us hl => match us, hl with | [_, _], _ => rfl
  have b8 := F8.binds (ps := ["script", "first", "last"]) fun _ _ _ _ _ _ us hl => match us, hl with | [_, _, _], _ => rfl
  have b9 := F9.binds (ps := ["box", "many"]) fun _ _ _ _ _ _ us hl => match us, hl with | [_, _], _ => rfl
  have b10 := F10.binds (ps := ["box"]) fun _ _ _ _ _ _ us hl => match us, hl with | [_], _ => rfl
  have b11 := F11.binds (ps := ["box", "depth", "inside"]) fun _ _ _ _ _ _ us hl => match us, hl with | [_, _, _], _ => rfl
  have b12 := F12.binds (ps := ["box", "depth"]) fun _ _ _ _ _ _ us hl => match us, hl with | [_, _], _ => rfl
  have b13 := F13.binds (ps := ["box", "depth", "inside"]) fun _ _ _ _ _ _ us hl => match us, hl with | [_, _, _], _ => rfl
  have b14 := F14.binds (ps := ["message"]) fun _ _ _ _ _ _ us hl => match us, hl with | [_], _ => rfl
  have b15 := F15.binds (ps := ["message"]) fun _ _ _ _ _ _ us hl => match us, hl with | [_], _ => rfl
  have b16 := F16.binds (ps := ["message"]) fun _ _ _ _ _ _ us hl => match us, hl with | [_], _ => rfl
  have b17 := F17.binds (ps := ["script"]) fun _ _ _ _ _ _ us hl => match us, hl with | [_], _ => rfl
  have g1 := PySem.W.mg_of X G a1
  have g2 := PySem.W.mg_of X G a2
  have g3 := PySem.W.mg_of X G a3
  have g4 := PySem.W.mg_of X G a4
  have g5 := PySem.W.mg_of X G a5
  have g6 := PySem.W.mg_of X G a6
  have g7 := PySem.W.mg_of X G a7
  have g8 := PySem.W.mg_of X G a8
  have g9 := PySem.W.mg_of X G a9
  have g10 := PySem.W.mg_of X G a10
  have g11 := PySem.W.mg_of X G a11
  have g12 := PySem.W.mg_of X G a12
  have g13 := PySem.W.mg_of X G a13
  have g14 := PySem.W.mg_of X G a14
  have g15 := PySem.W.mg_of X G a15
  have g16 := PySem.W.mg_of X G a16
  have g17 := PySem.W.mg_of X G a17
  have y1 := PySem.W.mg_none_of X G z1
  have y2 := PySem.W.mg_none_of X G z2
  have y3 := PySem.W.mg_none_of X G z3
  have y4 := PySem.W.mg_none_of X G z4
  have y5 := PySem.W.mg_none_of X G z5
  have y6 := PySem.W.mg_none_of X G z6
  have y7 := PySem.W.mg_none_of X G z7
  have gC := PySem.W.mg_of X G aC
  have gMe := PySem.W.mg_of X G aM
  have TC : OexC K C := ⟨⟨nm, qn, N, bs, _, sn, sub, ab, col, dd, m0, m1, m2, m3, m5, xC, by rfl⟩, sa, eb, tC, kC⟩
  have icl : ∃ cd, PySem.W.clsIn K C = some cd := ⟨_, by unfold PySem.W.clsIn; rw [xC] <;> rfl⟩
  have U : Sx.Sup l.prog K mg C cc cda fB (nBad cc cda) ["self", "name"] := ⟨TC, ⟨_, _, _, _, _, _, _, _, _, lB⟩, rfl, rfl, cB, ⟨_, rfl, rfl⟩, ⟨_, _, _, _, _, _, lc, hv, hf⟩, ⟨_, _, _, lx⟩, icl, mr, y7, rfl, top, sm, op, iV⟩
  have IX : IsC K C := ⟨by obtain ⟨cd, h⟩ := icl; rw [h]; rfl, ga, gg, eb, ca, cg, ct, ob⟩
  have XX : XfC K C := ⟨ga, gg, eb, hdC⟩
  have exM : PySem.W.exmOne K (.ref C) (.ref M) = some true := PySem.W.exm_ref ebM hdM tM sCM
  have KK : KA K mg w kd es en := ⟨PySem.W.mg_of X G aK, ⟨xK, lit, low⟩, ⟨_, e1⟩, ⟨_, e2⟩, ⟨_, e3⟩, n1, n2⟩
  refine ⟨PySem.W.fnOf "law" "law" (defArgs sLaw) (defBody sLaw) (defScope sLaw) .none kV17 dc17 pm17 an17 cd17 ct17, fun s v => .of_eq rfl, fun base _ _ => ?_⟩
  have gBd := ok_bad (P := l.prog) (w := w) (mg := mg) (base := base) (CX := L2.CX l.prog w) U no lB
  have bBd : Binds K (PySem.W.fnX "__init__" "BadMessage.__init__" (defArgs sBad) (defBody sBad) (defScope sBad) [("__class__", cc)] .none kVB dcB pmB anB (.ref cda) ctB) ["self", "name"] [] := .all fun us hl => match us, hl with | [_, _], _ => rfl
  have gIs := ok_is (P := l.prog) (w := w) (mg := mg) (base := base) F1
  have gCo := ok_cases (P := l.prog) (w := w) (mg := mg) (base := base) F2 y2
  have gOo := ok_other (P := l.prog) (w := w) (mg := mg) (base := base) F3
  have gIm := ok_inner F4 gIs b1 k1 g1 gCo b2 k2 g2 gOo b3 k3 g3
  have gAl := ok_all F5 gIm b4 k4 g4
  have gKi := ok_kinds F6 gAl b5 k5 g5 KK y5 TC iC tI gBd bBd gC
  have gCe := ok_cell (P := l.prog) (w := w) (mg := mg) (base := base) F7 y1
  have gDg := ok_digits F8 gCe b7 k7 g7 y3 y4
  have gDr := ok_draw (P := l.prog) (w := w) (mg := mg) (base := base) F9 y1 y4
  have gSt := ok_string F10 gDr b9 k9 g9
  have gM := both gDr b9 k9 g9 gSt b10 k10 g10 F11 b11 g11 F12 b12 g12 F13 b13 g13 y3 y1
  have gAs := ok_ask (P := l.prog) (w := w) (base := base) F14 b14 g14 3
  have gDu := ok_due F15 gAs b14 k14 g14 y5
  have gTo := ok_told F16 gKi b6 k6 g6 y2 y6 gMe gC IX XX no exM
  exact ok_law F17 gDg b8 k8 g8 (gM 2) (gM 1) b13 k13 g13 gDr b9 k9 g9 gTo b16 k16 g16 gDu b15 k15 g15
theorem walk {l : PySem.W.OpenLaw} {q : Program} {loose : List Str} {XP : (Str → Option Value) → Heap → Prop} {YP : World → Heap → Prop} {d : DefRec} {K : Params → PySem.W.Frag} (hn : l.most = some 63) (hdf : d.params.defaults = [])
    (hY : ∀ (w : World) (h : Heap), YP w h → (K w.params).In h)
    (F : ∀ (w : World) (mg : Str → Option Value) (fa : Addr) (h : Heap), (K w.params).In h → h.Ns mainGlobals mg → mg d.name = some (.ref fa) →
      ∃ fd : FuncData, (∀ (s : Shared) (u : Value), BindsTo s fd ⟨[u], []⟩ [("script", u)]) ∧ ∀ base : Heap, (K w.params).In base → base.Ns mainGlobals mg → FnOk l.prog w (K w.params) mg base CX0 8 fa fd ["script"] (spLaw (K w.params))) :
    PySem.W.WalkO q loose XP YP l.row.toRowW d [] (fun f vs => PySem.call f vs) :=
  L2.walk_of (n := 63) (k := 8) (x := "script") (CX := fun _ => CX0) (sp := fun w => spLaw (K w.params)) hn (by decide) hdf ⟨rfl, by decide, by decide⟩ hY F (fun _ _ a ns _ _ hS => ⟨a, ns, rfl, hS, fun _ => rfl⟩) fun _ _ _ _ _ z => z
end Mw
open PySem PySem.W PyProof.Rows
set_option maxRecDepth 100000 in
set_option maxHeartbeats 0 in
theorem PySem.Challenge.cw_messageways_k01_kinds_of_names_holds : PySem.Challenge.rw_messageways_k01_kinds_of_names.Holds := by
  w_on; o_law; k_head; (case hw => w_witness2)
  k_fill
  refine Mw.walk (l := PySem.Challenge.rw_messageways_k01_kinds_of_names) rfl rfl (fun w h Y => PySem.W.kIn_of Y) ?F
  case F =>
    intro w mg fa h KX G hmg
    refine' Mw.all_mk KX G hmg ?a1 ?l1 ?c1 ?k1 ?a2 ?l2 ?c2 ?k2 ?a3 ?l3 ?c3 ?k3 ?a4 ?l4 ?c4 ?k4 ?a5 ?l5 ?c5 ?k5 ?a6 ?l6 ?c6 ?k6 ?a7 ?l7 ?c7 ?k7 ?a8 ?l8 ?c8 ?k8 ?a9 ?l9 ?c9 ?k9 ?a10 ?l10 ?c10 ?k10 ?a11 ?l11 ?c11 ?k11 ?a12 ?l12 ?c12 ?k12 ?a13 ?l13 ?c13 ?k13 ?a14 ?l14 ?c14 ?k14 ?a15 ?l15 ?c15 ?k15 ?a16 ?l16 ?c16 ?k16 ?a17 ?l17 ?c17 ?k17 ?aC ?aM ?aK ?xC ?sa ?ga ?gg ?no ?iC ?tI ?lB ?cB ?lc ?hv ?hf ?lx ?mr ?sm ?op ?iV ?eb ?tC ?kC ?hdC ?ca ?cg ?ct ?ob ?ebM ?hdM ?tM ?sCM ?xK ?lit ?low ?e1 ?e2 ?e3 ?n1 ?n2 ?top ?z1 ?z2 ?z3 ?z4 ?z5 ?z6 ?z7
    (case a1 => k_is); (case l1 => k_is); (case c1 => k_is); (case k1 => k_is)
    (case a2 => k_is); (case l2 => k_is); (case c2 => k_is); (case k2 => k_is)
    (case a3 => k_is); (case l3 => k_is); (case c3 => k_is); (case k3 => k_is)
    (case a4 => k_is); (case l4 => k_is); (case c4 => k_is); (case k4 => k_is)
    (case a5 => k_is); (case l5 => k_is); (case c5 => k_is); (case k5 => k_is)
    (case a6 => k_is); (case l6 => k_is); (case c6 => k_is); (case k6 => k_is)
    (case a7 => k_is); (case l7 => k_is); (case c7 => k_is); (case k7 => k_is)
    (case a8 => k_is); (case l8 => k_is); (case c8 => k_is); (case k8 => k_is)
    (case a9 => k_is); (case l9 => k_is); (case c9 => k_is); (case k9 => k_is)
    (case a10 => k_is); (case l10 => k_is); (case c10 => k_is); (case k10 => k_is)
    (case a11 => k_is); (case l11 => k_is); (case c11 => k_is); (case k11 => k_is)
    (case a12 => k_is); (case l12 => k_is); (case c12 => k_is); (case k12 => k_is)
    (case a13 => k_is); (case l13 => k_is); (case c13 => k_is); (case k13 => k_is)
    (case a14 => k_is); (case l14 => k_is); (case c14 => k_is); (case k14 => k_is)
    (case a15 => k_is); (case l15 => k_is); (case c15 => k_is); (case k15 => k_is)
    (case a16 => k_is); (case l16 => k_is); (case c16 => k_is); (case k16 => k_is)
    (case a17 => k_is); (case l17 => k_is); (case c17 => k_is); (case k17 => k_is)
    (case aC => k_is)
    (case aM => k_is)
    (case aK => k_is)
    (case xC => k_is)
    (case sa => k_is)
    (case ga => k_is)
    (case gg => k_is)
    (case no => k_is)
    (case iC => k_is)
    (case tI => k_is)
    (case lB => k_is)
    (case cB => k_is)
    (case lc => k_is)
    (case hv => rfl)
    (case hf => decide +kernel)
    (case lx => k_is)
    (case mr => k_is)
    (case sm => ks_is)
    (case op => k_is)
    (case iV => k_is)
    (case eb => k_is)
    (case tC => k_is)
    (case kC => k_is)
    (case hdC => k_is)
    (case ca => k_is)
    (case cg => k_is)
    (case ct => k_is)
    (case ob => k_is)
    (case ebM => k_is)
    (case hdM => k_is)
    (case tM => k_is)
    (case sCM => k_is)
    (case xK => k_is)
    (case lit => k_keys)
    (case low => decide)
    (case e1 => k_is)
    (case e2 => k_is)
    (case e3 => k_is)
    (case n1 => k_is)
    (case n2 => k_is)
    (case top => decide +kernel)
    (case z1 => k_is)
    (case z2 => k_is)
    (case z3 => k_is)
    (case z4 => k_is)
    (case z5 => k_is)
    (case z6 => k_is)
    (case z7 => k_is)

