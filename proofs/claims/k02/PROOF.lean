import PyProof.Rows.All
import Wide.All
import OpenK.AllK
import Wide.FinOn
import HandS.Base
import HandS.Call
import HandS.List
import HandS.Comp
import HandS.Ends
import HandS.Dict
import HandS.Iter
import HandS.Text
import HandS.Words
import HandS.WordsList
import HandS.Evl
import HandS.Style
import HandS.Walk
import HandS.Zip
import HandS.More
import HandS.FStr
import HandS.IsInst
import HandS.StrMore
import KE.KDictExact
import HandS.ListItems
import PySem.Challenge.RW_messageways_k02_notations_are_read_back
set_option Elab.async false
set_option maxRecDepth 100000
namespace Mw
open PySem L2
def top (i : Nat) : Stmt := PySem.Challenge.pw_messageways_k02_notations_are_read_back.main.body.getD i (.Pass ⟨0, 0, 0, 0⟩)
/-! ### trees of messages: a message is a chain of nodes, the cases of a choice a chain of cas -/
inductive T where
  | nil
  | text (s : Str) (r : T)
  | shw (n : Str) (r : T)
  | num (r : T)
  | cho (hd : List V) (cs o r : T)
  | cas (k : V) (m r : T)
/-- the values vs are the nodes (the cases) of the tree, as the heap has them -/
def Nodes (H : Hp) : T → List V → Prop
  | .nil, vs => vs = []
  | .text s r, vs => ∃ p ws, vs = .ref p :: ws ∧ H p = some (.tup [.str "text", .str s]) ∧ Nodes H r ws
  | .shw n r, vs => ∃ p ws, vs = .ref p :: ws ∧ H p = some (.tup [.str "show", .str n]) ∧ Nodes H r ws
  | .num r, vs => ∃ p ws, vs = .ref p :: ws ∧ H p = some (.tup [.str "number"]) ∧ Nodes H r ws
  | .cho hd cs o r, vs => ∃ p ws ca cvs oa ovs, vs = .ref p :: ws ∧ H p = some (.tup (hd ++ [.ref ca, .ref oa])) ∧ H ca = some (.lst cvs) ∧ Nodes H cs cvs ∧ H oa = some (.lst ovs) ∧ Nodes H o ovs ∧ Nodes H r ws
  | .cas k m r, vs => ∃ p ws ma mvs, vs = .ref p :: ws ∧ H p = some (.tup [k, .ref ma]) ∧ H ma = some (.lst mvs) ∧ Nodes H m mvs ∧ Nodes H r ws
/-- a list at a that is a message -/
def At (H : Hp) (a : Addr) (t : T) : Prop := ∃ vs, H a = some (.lst vs) ∧ Nodes H t vs
/-- all but the box stays; the box is a list of a ref and an int -/
def IsBox (vs : List V) : Prop := ∃ d i, vs = [.ref d, .int i]
def Ext (B : Addr) (H H' : Hp) : Prop := ∀ b o, b ≠ B → H b = some o → H' b = some o
theorem Ext.refl {B : Addr} (H : Hp) : Ext B H H := fun _ _ _ h => h
theorem Ext.trans {B : Addr} {H H1 H2 : Hp} (a : Ext B H H1) (b : Ext B H1 H2) : Ext B H H2 := fun c o n h => b c o n (a c o n h)
theorem Ext.of {B : Addr} {H H' : Hp} (s : Same H H') : Ext B H H' := fun b o _ h => s b o h
theorem same_new {H : Hp} {p : Addr} (h : H p = none) (o : HO) : Same H (upd H p o) := fun b u q => by
  rw [upd_ne (ne_of_none q h)]
  exact q
theorem same_mut {H H' : Hp} {p : Addr} (s : Same H H') (h : H p = none) (o : HO) : Same H (upd H' p o) := fun b u q => by
  rw [upd_ne (ne_of_none q h)]
  exact s b u q
theorem Nodes.refs {H : Hp} : ∀ {t : T} {vs : List V}, Nodes H t vs → ∀ v ∈ vs, ∃ a, v = .ref a
  | .nil, _, h, v, hv => by
    have h' : _ = [] := h
    subst h'
    cases hv
  | .text s r, _, h, v, hv => by
    obtain ⟨p, ws, rfl, _, hr⟩ := h
    rcases List.mem_cons.mp hv with rfl | hv
    · exact ⟨_, rfl⟩
    · exact Nodes.refs hr v hv
  | .shw n r, _, h, v, hv => by
    obtain ⟨p, ws, rfl, _, hr⟩ := h
    rcases List.mem_cons.mp hv with rfl | hv
    · exact ⟨_, rfl⟩
    · exact Nodes.refs hr v hv
  | .num r, _, h, v, hv => by
    obtain ⟨p, ws, rfl, _, hr⟩ := h
    rcases List.mem_cons.mp hv with rfl | hv
    · exact ⟨_, rfl⟩
    · exact Nodes.refs hr v hv
  | .cho hd cs o r, _, h, v, hv => by
    obtain ⟨p, ws, ca, cvs, oa, ovs, rfl, _, _, _, _, _, hr⟩ := h
    rcases List.mem_cons.mp hv with rfl | hv
    · exact ⟨_, rfl⟩
    · exact Nodes.refs hr v hv
  | .cas k m r, _, h, v, hv => by
    obtain ⟨p, ws, ma, mvs, rfl, _, _, _, hr⟩ := h
    rcases List.mem_cons.mp hv with rfl | hv
    · exact ⟨_, rfl⟩
    · exact Nodes.refs hr v hv
theorem Nodes.notBox {H : Hp} {t : T} {vs : List V} (h : Nodes H t vs) : ¬ IsBox vs := by
  rintro ⟨d, i, rfl⟩
  obtain ⟨a, e⟩ := h.refs (.int i) (by simp)
  cases e
theorem lst_ne {B a : Addr} {H : Hp} {bs vs : List V} (hb : H B = some (.lst bs)) (ib : IsBox bs) (ha : H a = some (.lst vs)) (nv : ¬ IsBox vs) : a ≠ B := by
  intro e
  subst e
  rw [hb] at ha
  cases ha
  exact nv ib
theorem tup_ne {B a : Addr} {H : Hp} {bs vs : List V} (hb : H B = some (.lst bs)) (ha : H a = some (.tup vs)) : a ≠ B := by
  intro e
  subst e
  rw [hb] at ha
  cases ha
/-- a tree stays where all but the box stays -/
theorem Nodes.ext {B : Addr} {H H' : Hp} {bs : List V} (hb : H B = some (.lst bs)) (ib : IsBox bs) (e : Ext B H H') : ∀ {t : T} {vs : List V}, Nodes H t vs → Nodes H' t vs
  | .nil, _, h => h
  | .text s r, _, h => by
    obtain ⟨p, ws, rfl, hp, hr⟩ := h
    exact ⟨p, ws, rfl, e _ _ (tup_ne hb hp) hp, Nodes.ext hb ib e hr⟩
  | .shw n r, _, h => by
    obtain ⟨p, ws, rfl, hp, hr⟩ := h
    exact ⟨p, ws, rfl, e _ _ (tup_ne hb hp) hp, Nodes.ext hb ib e hr⟩
  | .num r, _, h => by
    obtain ⟨p, ws, rfl, hp, hr⟩ := h
    exact ⟨p, ws, rfl, e _ _ (tup_ne hb hp) hp, Nodes.ext hb ib e hr⟩
  | .cho hd cs o r, _, h => by
    obtain ⟨p, ws, ca, cvs, oa, ovs, rfl, hp, hc, hcs, ho, hos, hr⟩ := h
    exact ⟨p, ws, ca, cvs, oa, ovs, rfl, e _ _ (tup_ne hb hp) hp, e _ _ (lst_ne hb ib hc hcs.notBox) hc, Nodes.ext hb ib e hcs, e _ _ (lst_ne hb ib ho hos.notBox) ho, Nodes.ext hb ib e hos, Nodes.ext hb ib e hr⟩
  | .cas k m r, _, h => by
    obtain ⟨p, ws, ma, mvs, rfl, hp, hm, hms, hr⟩ := h
    exact ⟨p, ws, ma, mvs, rfl, e _ _ (tup_ne hb hp) hp, e _ _ (lst_ne hb ib hm hms.notBox) hm, Nodes.ext hb ib e hms, Nodes.ext hb ib e hr⟩
theorem Nodes.same {H H' : Hp} (e : Same H H') : ∀ {t : T} {vs : List V}, Nodes H t vs → Nodes H' t vs
  | .nil, _, h => h
  | .text s r, _, h => by
    obtain ⟨p, ws, rfl, hp, hr⟩ := h
    exact ⟨p, ws, rfl, e _ _ hp, Nodes.same e hr⟩
  | .shw n r, _, h => by
    obtain ⟨p, ws, rfl, hp, hr⟩ := h
    exact ⟨p, ws, rfl, e _ _ hp, Nodes.same e hr⟩
  | .num r, _, h => by
    obtain ⟨p, ws, rfl, hp, hr⟩ := h
    exact ⟨p, ws, rfl, e _ _ hp, Nodes.same e hr⟩
  | .cho hd cs o r, _, h => by
    obtain ⟨p, ws, ca, cvs, oa, ovs, rfl, hp, hc, hcs, ho, hos, hr⟩ := h
    exact ⟨p, ws, ca, cvs, oa, ovs, rfl, e _ _ hp, e _ _ hc, Nodes.same e hcs, e _ _ ho, Nodes.same e hos, Nodes.same e hr⟩
  | .cas k m r, _, h => by
    obtain ⟨p, ws, ma, mvs, rfl, hp, hm, hms, hr⟩ := h
    exact ⟨p, ws, ma, mvs, rfl, e _ _ hp, e _ _ hm, Nodes.same e hms, Nodes.same e hr⟩
/-- two chains, one behind the other -/
def T.app : T → T → T
  | .nil, u => u
  | .text s r, u => .text s (r.app u)
  | .shw n r, u => .shw n (r.app u)
  | .num r, u => .num (r.app u)
  | .cho hd cs o r, u => .cho hd cs o (r.app u)
  | .cas k m r, u => .cas k m (r.app u)
theorem Nodes.app {H : Hp} {u : T} {us : List V} (hu : Nodes H u us) : ∀ {t : T} {vs : List V}, Nodes H t vs → Nodes H (t.app u) (vs ++ us)
  | .nil, _, h => by
    have h' : _ = [] := h
    subst h'
    exact hu
  | .text s r, _, h => by
    obtain ⟨p, ws, rfl, hp, hr⟩ := h
    exact ⟨p, ws ++ us, rfl, hp, Nodes.app hu hr⟩
  | .shw n r, _, h => by
    obtain ⟨p, ws, rfl, hp, hr⟩ := h
    exact ⟨p, ws ++ us, rfl, hp, Nodes.app hu hr⟩
  | .num r, _, h => by
    obtain ⟨p, ws, rfl, hp, hr⟩ := h
    exact ⟨p, ws ++ us, rfl, hp, Nodes.app hu hr⟩
  | .cho hd cs o r, _, h => by
    obtain ⟨p, ws, ca, cvs, oa, ovs, rfl, hp, hc, hcs, ho, hos, hr⟩ := h
    exact ⟨p, ws ++ us, ca, cvs, oa, ovs, rfl, hp, hc, hcs, ho, hos, Nodes.app hu hr⟩
  | .cas k m r, _, h => by
    obtain ⟨p, ws, ma, mvs, rfl, hp, hm, hms, hr⟩ := h
    exact ⟨p, ws ++ us, ma, mvs, rfl, hp, hm, hms, Nodes.app hu hr⟩
section
variable {P : Program} {w : World} {K : PySem.W.Frag} {mg : Str → Option Value} {base : Heap}
/-! ### _law_cell -/
abbrev sCell : Stmt := top 29
theorem scCell : FnScope ["script", "k"] ["script", "k"] (defScope sCell) := ⟨rfl, rfl, rfl, by decide +kernel, rfl, by decide +kernel, by decide +kernel⟩
def spCell (K : PySem.W.Frag) : Sp := fun vs H Q _ => ∃ (a : Addr) (ns : List Int) (k : Int), vs = [.ref a, .int k] ∧ SqL K H a (ns.map V.int) ∧ 0 ≤ k ∧ ∀ z, Q (.int z) H
theorem ok_cell {f : Addr} {fd : FuncData} (F : Fun K "_law_cell" "_law_cell" sCell f fd) (ml : mg "len" = none) : FnOk P w K mg base CX0 1 f fd ["script", "k"] (spCell K) := by
  refine F.ok scCell (fun vs H Q E h => ?_) (fun cdv A outer s H vs Q E hr h => ?_)
  · obtain ⟨a, ns, k, rfl, _⟩ := h
    rfl
  obtain ⟨a, ns, k, rfl, hS, h0, q⟩ := h
  refine ⟨_, pss_cons (ps_if (pt_cmpR op_lt (pv 1) (pe_callB call_len_seq (by rfl) ml PySem.boot_len (pa_cons (pv 0) pa_nil)) (nomark _)) (pss_one (ps_ret (pe_ix ix_list (pv 0) (pv 1) (fun _ _ => rfl)))) pss_nil)
    (pss_one (ps_ret pe_int)), ?_⟩
  refine ⟨_, rfl, _, rfl, a, _, rfl, .inl hS, _, _, rfl, rfl, _, rfl, ?_⟩
  refine ite2 (fun c => ?_) (fun c => ?_)
  · have c' := of_decide_eq_true c
    rw [List.length_map] at c'
    have hk : k.toNat < ns.length := by omega
    refine ⟨_, rfl, _, rfl, a, _, k, .int ns[k.toNat], rfl, rfl, hS, at_of (j := k.toNat) (by omega) (by rw [List.getElem?_map, List.getElem?_eq_getElem hk] <;> rfl), q _⟩
  · exact q _
end
end Mw

namespace Mw
open PySem L2
section
variable {P : Program} {w : World} {K : PySem.W.Frag} {mg : Str → Option Value} {base : Heap}
/-! ### _law_digits: a new list of ints -/
abbrev sDigits : Stmt := top 30
theorem scDigits : FnScope ["script", "first", "last", "digits", "k", "cell", "turn", "seed"] ["script", "first", "last"] (defScope sDigits) := ⟨rfl, rfl, rfl, by decide +kernel, rfl, by decide +kernel, by decide +kernel⟩
def spDigits (K : PySem.W.Frag) : Sp := fun vs H Q _ => ∃ (a : Addr) (ns : List Int), vs = [.ref a, .int 0, .int 63] ∧ SqL K H a (ns.map V.int) ∧ ∀ (d : Addr) (H' : Hp) (ds : List Int), H d = none → Same H H' → H' d = some (.lst (ds.map V.int)) → Q (.ref d) H'
theorem len_ints (ds : List Int) (z : Int) : ds.map V.int ++ [V.int z] = (ds ++ [z]).map V.int := by simp
theorem ok_digits {f fC : Addr} {fd fdC : FuncData} (F : Fun K "_law_digits" "_law_digits" sDigits f fd) (GC : FnOk P w K mg base CX0 1 fC fdC ["script", "k"] (spCell K)) (bC : Binds K fdC ["script", "k"] []) (kC : PySem.W.keepIn K (.ref fC) = true) (mC : mg "_law_cell" = some (.ref fC)) (mr : mg "range" = none) (mi : mg "int" = none) :
    FnOk P w K mg base CX0 2 f fd ["script", "first", "last"] (spDigits K) := by
  refine F.ok scDigits (fun vs H Q E h => ?_) (fun cdv A outer s H vs Q E hr h => ?_)
  · obtain ⟨a, ns, rfl, _⟩ := h
    rfl
  obtain ⟨a, ns, rfl, hS, q⟩ := h
  have nd := scDigits.nd
  refine ⟨_, pss_cons (ps_set (i := 3) nd rfl (.inl rfl) (pe_lst pa_nil))
    (pss_cons (ps_for PassesOwn.never rfl (pi_range2 rfl mr (pa_cons (pv 1) (pa_cons (pv 2) pa_nil))) (pg_name (i := 4) nd rfl (.inl rfl))
      (pss_cons (ps_set (i := 5) nd rfl (.inl rfl) (pe_call GC hr rfl mC kC bC .nil pass0 (pa_cons (pv 0) (pa_cons (pv 4) pa_nil))))
      (Evl.pss_cut (ps_if (pt_cmpR op_lt (pv 5) pe_int (nomark _)) (pss_one (ps_set (i := 5) nd rfl (.inl rfl) (pe_op op_sub pe_int (pe_op op_mul pe_int (pv 5))))) pss_nil)
      (pss_one (ps_if (pt_cmpR op_ge (pv 5) (pe_op op_pow pe_int pe_int) (nomark _))
        (pss_one (ps_for PassesOwn.never rfl (pi_range1 rfl mr (pa_cons pe_int pa_nil)) (pg_name (i := 6) nd rfl (.inl rfl))
          (pss_one (ps_if (pt_cmpR op_gt (pv 5) pe_int (nomark _))
            (pss_cons (ps_expr (pe_bm PySem.F.plainAttrs_list PySem.F.slot_list_append PySem.F.type_list_append mt_append (pv 3) (pa_cons (pe_op op_mod (pe_callTy call_int1 (by rfl) mi (by decide +kernel) (pa_cons (pv 5) pa_nil)) pe_int) pa_nil)))
            (pss_one (ps_set (i := 5) nd rfl (.inl rfl) (pe_op op_fdiv (pv 5) pe_int)))) pss_nil))))
        (pss_cons (ps_set (i := 7) nd rfl (.inl rfl) (pe_op op_mod (pe_callTy call_int1 (by rfl) mi (by decide +kernel) (pa_cons (pe_op op_add (pe_op op_add (pe_op op_mul (pv 5) pe_int) (pe_op op_mul (pv 4) pe_int)) pe_int) pa_nil)) pe_int))
        (pss_one (ps_for PassesOwn.never rfl (pi_range1 rfl mr (pa_cons pe_int pa_nil)) (pg_name (i := 6) nd rfl (.inl rfl))
          (pss_cons (ps_set (i := 7) nd rfl (.inl rfl) (pe_op op_mod (pe_callTy call_int1 (by rfl) mi (by decide +kernel) (pa_cons (pe_op op_add (pe_op op_add (pe_op op_mul (pv 7) pe_int) (pe_op op_mul pe_int (pv 6))) pe_int) pa_nil)) pe_int))
          (pss_one (ps_expr (pe_bm PySem.F.plainAttrs_list PySem.F.slot_list_append PySem.F.type_list_append mt_append (pv 3) (pa_cons (pe_op op_mod (pe_callTy call_int1 (by rfl) mi (by decide +kernel) (pa_cons (pe_op op_fdiv (pv 7) pe_int) pa_nil)) pe_int) pa_nil)))))))))))))
    (pss_one (ps_ret (pv 3)))), ?_⟩
  refine ⟨Nat.zero_le _, fun d nd0 => ?_⟩
  have s1 : Same H (upd H d (.lst [])) := same_new nd0 _
  refine ⟨_, rfl, _, rfl, 0, 63, rfl, by decide, for_range (lo := 0) (n := (63 - 0 : Int).toNat) (fun i σ H' => ∃ (ds : List Int) (o4 o5 o6 o7 : Option V), σ = [some (.ref a), some (.int 0), some (.int 63), some (.ref d), o4, o5, o6, o7] ∧ Same H H' ∧ H' d = some (.lst (ds.map V.int)) ∧ ds.length ≤ 60 * i)
    ⟨[], none, none, none, none, rfl, s1, upd_same, Nat.le_refl _⟩ ?_ ?_⟩
  · rintro i σ H2 hi ⟨ds, o4, o5, o6, o7, rfl, s2, hd, hl⟩
    refine ⟨_, rfl, _, rfl, a, ns, _, rfl, s2.seq hS, by omega, fun z => ?_⟩
    refine ⟨fun σ' H' => ∃ z' : Int, σ' = [some (.ref a), some (.int 0), some (.int 63), some (.ref d), some (.int (0 + i)), some (.int z'), o6, o7] ∧ H' = H2, ?_, ?_⟩
    · refine ⟨_, rfl, _, _, rfl, rfl, _, rfl, ?_⟩
      refine ite2 (fun _ => ?_) (fun _ => ?_)
      · exact ⟨_, rfl, _, _, rfl, rfl, .inl (by decide), _, _, rfl, rfl, _, rfl, rfl⟩
      · exact ⟨_, rfl, rfl⟩
    · rintro σ' H' ⟨z', rfl, rfl⟩
      refine ⟨_, rfl, _, _, rfl, rfl, (by unfold CPow; decide), _, _, rfl, rfl, _, rfl, ?_⟩
      refine ite2 (fun _ => ?_) (fun _ => ?_)
      · refine ⟨60, rfl, by decide, by decide, for_range (lo := 0) (n := 60) (fun j σ H' => ∃ (ds' : List Int) (z' : Int) (o6 : Option V), σ = [some (.ref a), some (.int 0), some (.int 63), some (.ref d), some (.int (0 + i)), some (.int z'), o6, o7] ∧ Same H H' ∧ H' d = some (.lst (ds'.map V.int)) ∧ ds'.length ≤ 60 * i + j)
          ⟨ds, z', o6, rfl, s2, hd, hl⟩ ?_ ?_⟩
        · rintro j σ H3 hj ⟨ds', z'', o6, rfl, s3, hd3, hl3⟩
          refine ⟨_, rfl, _, _, rfl, rfl, _, rfl, ?_⟩
          refine ite2 (fun _ => ?_) (fun _ => ?_)
          · refine ⟨_, rfl, .inl ⟨rfl, _, SqL.of hd3⟩, _, rfl, .inl ⟨_, rfl, _, _, rfl, rfl, (by show (0 : Int) < 1000; decide), d, _, _, rfl, rfl, hd3, ?_, ?_⟩⟩
            · rw [List.length_map]
              exact Nat.lt_of_lt_of_le (show ds'.length < 100000 by omega) (by decide)
            · refine ⟨_, rfl, _, _, rfl, rfl, ⟨by decide, by decide⟩, ds' ++ [z'' % 1000], _, _, rfl, same_mut s3 nd0 _, ?_, ?_⟩
              · rw [upd_same, len_ints]
              · rw [List.length_append, List.length_singleton]
                omega
          · exact ⟨ds', _, _, rfl, s3, hd3, by omega⟩
        · rintro σ H3 ⟨ds', z'', o6, rfl, s3, hd3, hl3⟩
          exact ⟨ds', _, _, _, _, rfl, s3, hd3, by omega⟩
      · refine ⟨_, rfl, _, _, rfl, rfl, .inr (by decide), _, rfl, _, _, rfl, rfl, .inr (by decide), _, _, rfl, rfl, _, _, rfl, rfl, .inl ⟨_, rfl, _, _, rfl, rfl, (by show (0 : Int) < 2147483647; decide), ?_⟩⟩
        refine ⟨12, rfl, by decide, by decide, for_range (lo := 0) (n := 12) (fun j σ H' => ∃ (ds' : List Int) (z7 : Int) (o6 : Option V), σ = [some (.ref a), some (.int 0), some (.int 63), some (.ref d), some (.int (0 + i)), some (.int z'), o6, some (.int z7)] ∧ Same H H' ∧ H' d = some (.lst (ds'.map V.int)) ∧ ds'.length ≤ 60 * i + j)
          ⟨ds, _, o6, rfl, s2, hd, hl⟩ ?_ ?_⟩
        · rintro j σ H3 hj ⟨ds', z7, o6, rfl, s3, hd3, hl3⟩
          refine ⟨_, rfl, _, _, rfl, rfl, .inr (by decide), _, rfl, _, _, rfl, rfl, .inl (by decide), _, _, rfl, rfl, _, _, rfl, rfl, .inl ⟨_, rfl, _, _, rfl, rfl, (by show (0 : Int) < 2147483647; decide), ?_⟩⟩
          refine ⟨_, rfl, .inl ⟨rfl, _, SqL.of hd3⟩, _, rfl, _, _, rfl, rfl, ⟨by decide, by decide⟩, .inl ⟨_, rfl, _, _, rfl, rfl, (by show (0 : Int) < 1000; decide), d, _, _, rfl, rfl, hd3, ?_, ?_⟩⟩
          · rw [List.length_map]
            exact Nat.lt_of_lt_of_le (show ds'.length < 100000 by omega) (by decide)
          · refine ⟨ds' ++ [((z7 * 16807 + 7 * (0 + (j : Int)) + 1) % 2147483647 / 997) % 1000], _, _, rfl, same_mut s3 nd0 _, ?_, ?_⟩
            · rw [upd_same, len_ints]
            · rw [List.length_append, List.length_singleton]
              omega
        · rintro σ H3 ⟨ds', z7, o6, rfl, s3, hd3, hl3⟩
          exact ⟨ds', _, _, _, _, rfl, s3, hd3, by omega⟩
  · rintro σ H2 ⟨ds, o4, o5, o6, o7, rfl, s2, hd, hl⟩
    exact ⟨_, rfl, q d H2 ds nd0 s2 hd⟩
end
end Mw

namespace Mw
open PySem L2
/-! ### how a heap goes on: all but the box stays, nothing is given up -/
structure Go (B : Addr) (H H' : Hp) : Prop where
  ext : ∀ b o, b ≠ B → H b = some o → H' b = some o
  dom : ∀ b, H' b = none → H b = none
theorem Go.refl (B : Addr) (H : Hp) : Go B H H := ⟨fun _ _ _ h => h, fun _ h => h⟩
theorem Go.trans {B : Addr} {H H1 H2 : Hp} (a : Go B H H1) (b : Go B H1 H2) : Go B H H2 := ⟨fun c o n h => b.ext c o n (a.ext c o n h), fun c h => a.dom c (b.dom c h)⟩
theorem upd_none {H : Hp} {p b : Addr} {o : HO} (h : upd H p o b = none) : H b = none := by
  unfold upd at h
  split at h
  · cases h
  · exact h
theorem Go.new {B : Addr} {H : Hp} {p : Addr} (h : H p = none) (o : HO) : Go B H (upd H p o) := ⟨fun b u _ q => same_new h o b u q, fun b q => upd_none q⟩
theorem Go.mut {B : Addr} {H H' : Hp} {p : Addr} (g : Go B H H') (h : H p = none) (o : HO) : Go B H (upd H' p o) :=
  ⟨fun b u n q => by
    rw [upd_ne (ne_of_none q h)]
    exact g.ext b u n q, fun b q => g.dom b (upd_none q)⟩
theorem Go.box (B : Addr) (H : Hp) (o : HO) : Go B H (upd H B o) := ⟨fun b u n q => by rw [upd_ne n]; exact q, fun b q => upd_none q⟩
theorem Go.same {B : Addr} {H H' : Hp} (s : Same H H') : Go B H H' := ⟨fun b o _ h => s b o h, fun b h => s.free h⟩
/-- what is new in H, seen from H0 -/
def fr (H0 H : Hp) : Hp := fun a => match H0 a with
  | none => H a
  | some _ => none
theorem fr_new {H0 H : Hp} {a : Addr} (h : H0 a = none) : fr H0 H a = H a := by
  unfold fr
  rw [h]
theorem fr_old {H0 H : Hp} {a : Addr} {o : HO} (h : H0 a = some o) : fr H0 H a = none := by
  unfold fr
  rw [h]
theorem fr_in {H0 H : Hp} {a : Addr} {o : HO} (h : fr H0 H a = some o) : H0 a = none ∧ H a = some o := by
  unfold fr at h
  split at h
  · exact ⟨by assumption, h⟩
  · cases h
theorem fr_go {B : Addr} {H0 H1 H2 : Hp} {ob : HO} (hb : H0 B = some ob) (g : Go B H1 H2) : Same (fr H0 H1) (fr H0 H2) := fun a o h => by
  obtain ⟨h0, h1⟩ := fr_in h
  rw [fr_new h0]
  exact g.ext a o (by rintro rfl; rw [hb] at h0; cases h0) h1
theorem fr_same {H0 H1 H2 : Hp} (g : Same H1 H2) : Same (fr H0 H1) (fr H0 H2) := fun a o h => by
  obtain ⟨h0, h1⟩ := fr_in h
  rw [fr_new h0]
  exact g a o h1
theorem fr_mut {H0 H1 : Hp} {l : Addr} {ol : HO} (hl : H0 l = some ol) (o : HO) : Same (fr H0 H1) (fr H0 (upd H1 l o)) := fun a u h => by
  obtain ⟨h0, h1⟩ := fr_in h
  rw [fr_new h0, upd_ne (by rintro rfl; rw [hl] at h0; cases h0)]
  exact h1
theorem fr_dom {H0 H1 H2 : Hp} (g : ∀ b, H1 b = none → H0 b = none) : Same (fr H1 H2) (fr H0 H2) := fun a u h => by
  obtain ⟨h0, h1⟩ := fr_in h
  rw [fr_new (g a h0)]
  exact h1
theorem fr_out {H0 H : Hp} : Same (fr H0 H) H := fun a o h => (fr_in h).2
/-- the box: digits and a place -/
def Box (H : Hp) (B d : Addr) : Prop := ∃ (ds : List Int) (i : Int), H B = some (.lst [.ref d, .int i]) ∧ H d = some (.lst (ds.map V.int)) ∧ 0 ≤ i
theorem Box.isB {H : Hp} {B d : Addr} (b : Box H B d) : ∃ o, H B = some o := by
  obtain ⟨ds, i, h, _⟩ := b
  exact ⟨_, h⟩
theorem Box.isD {H : Hp} {B d : Addr} (b : Box H B d) : ∃ o, H d = some o := by
  obtain ⟨ds, i, _, h, _⟩ := b
  exact ⟨_, h⟩
theorem Box.neB {H : Hp} {B d l : Addr} (b : Box H B d) (h : H l = none) : l ≠ B := by
  obtain ⟨o, hB⟩ := b.isB
  exact (ne_of_none hB h).symm
theorem Box.neD {H : Hp} {B d l : Addr} (b : Box H B d) (h : H l = none) : l ≠ d := by
  obtain ⟨o, hB⟩ := b.isD
  exact (ne_of_none hB h).symm
theorem Box.ne {H : Hp} {B d : Addr} {ds : List Int} {i : Int} (h : H B = some (.lst [.ref d, .int i])) (hd : H d = some (.lst (ds.map V.int))) : d ≠ B := by
  rintro rfl
  rw [h] at hd
  cases ds with
  | nil => cases hd
  | cons z r => cases hd
theorem Box.same {H H' : Hp} {B d : Addr} (s : Same H H') (b : Box H B d) : Box H' B d := by
  obtain ⟨ds, i, h, hd, hi⟩ := b
  exact ⟨ds, i, s _ _ h, s _ _ hd, hi⟩
theorem Box.mut {H : Hp} {B d l : Addr} (b : Box H B d) (hB : l ≠ B) (hd : l ≠ d) (o : HO) : Box (upd H l o) B d := by
  obtain ⟨ds, i, h, hd', hi⟩ := b
  exact ⟨ds, i, by rw [upd_ne hB.symm]; exact h, by rw [upd_ne hd.symm]; exact hd', hi⟩
theorem Box.new {H : Hp} {B d l : Addr} (b : Box H B d) (h : H l = none) (o : HO) : Box (upd H l o) B d := b.mut (b.neB h) (b.neD h) o
section
variable {P : Program} {w : World} {K : PySem.W.Frag} {mg : Str → Option Value} {base : Heap}
/-! ### _law_draw -/
abbrev sDraw : Stmt := top 31
theorem scDraw : FnScope ["box", "many", "at"] ["box", "many"] (defScope sDraw) := ⟨rfl, rfl, rfl, by decide +kernel, rfl, by decide +kernel, by decide +kernel⟩
def spDraw : Sp := fun vs H Q _ => ∃ (B d : Addr) (n : Int), vs = [.ref B, .int n] ∧ 0 < n ∧ Box H B d ∧ ∀ z H', 0 ≤ z → z < n → Go B H H' → Box H' B d → Q (.int z) H'
theorem ok_draw {f : Addr} {fd : FuncData} (F : Fun K "_law_draw" "_law_draw" sDraw f fd) (ml : mg "len" = none) (mi : mg "int" = none) : FnOk P w K mg base CX0 1 f fd ["box", "many"] spDraw := by
  refine F.ok scDraw (fun vs H Q E h => ?_) (fun cdv A outer s H vs Q E hr h => ?_)
  · obtain ⟨B, d, n, rfl, _⟩ := h
    rfl
  obtain ⟨B, d, n, rfl, h0, ⟨ds, i, hB, hd, hi⟩, q⟩ := h
  have nd := scDraw.nd
  refine ⟨_, pss_cons (ps_set (i := 2) nd rfl (.inl rfl) (pe_ix ix_list (pv 0) pe_int (fun _ _ => rfl)))
    (pss_cons (ps_asg (pe_op op_add (pv 2) pe_int) (pg_sub (pv 0) pe_int set_list))
    (pss_cons (ps_if (pt_cmpR op_lt (pv 2) (pe_callB call_len_seq (by rfl) ml PySem.boot_len (pa_cons (pe_ix ix_list (pv 0) pe_int (fun _ _ => rfl)) pa_nil)) (nomark _))
      (pss_one (ps_ret (pe_op op_mod (pe_callTy call_int1 (by rfl) mi (by decide +kernel) (pa_cons (pe_ix ix_list (pe_ix ix_list (pv 0) pe_int (fun _ _ => rfl)) (pv 2) (fun _ _ => rfl)) pa_nil)) (pv 1)))) pss_nil)
    (pss_one (ps_ret pe_int)))), ?_⟩
  have ne : d ≠ B := Box.ne hB hd
  refine ⟨_, rfl, B, _, 1, _, rfl, rfl, SqL.of hB, atI_nat (j := 1) rfl, ?_⟩
  refine ⟨_, rfl, _, _, rfl, rfl, _, rfl, B, _, 1, 1, rfl, rfl, hB, rfl, ?_⟩
  have hB' : upd H B (.lst [.ref d, .int (i + 1)]) B = some (.lst [.ref d, .int (i + 1)]) := upd_same
  have hd' : upd H B (.lst [.ref d, .int (i + 1)]) d = some (.lst (ds.map V.int)) := by rw [upd_ne ne]; exact hd
  have hb : Box (upd H B (.lst [.ref d, .int (i + 1)])) B d := ⟨ds, i + 1, hB', hd', by omega⟩
  refine ⟨_, rfl, _, rfl, B, _, 0, _, rfl, rfl, SqL.of hB', atI_nat (j := 0) rfl, d, _, rfl, .inl (SqL.of hd'), _, _, rfl, rfl, _, rfl, ?_⟩
  refine ite2 (fun c => ?_) (fun c => ?_)
  · have c' := of_decide_eq_true c
    rw [List.length_map] at c'
    have hk : i.toNat < ds.length := by omega
    refine ⟨_, rfl, B, _, 0, _, rfl, rfl, SqL.of hB', atI_nat (j := 0) rfl, _, rfl, d, _, i, .int ds[i.toNat], rfl, rfl, SqL.of hd', at_of (j := i.toNat) (by omega) (by rw [List.getElem?_map, List.getElem?_eq_getElem hk] <;> rfl), .inl ⟨_, rfl, _, rfl, _, _, rfl, rfl, h0, ?_⟩⟩
    exact q _ _ (Int.emod_nonneg _ (by omega)) (Int.emod_lt_of_pos _ h0) (Go.box B H _) hb
  · exact q 0 _ (by omega) h0 (Go.box B H _) hb
/-! ### _law_string -/
abbrev sString : Stmt := top 32
theorem scString : FnScope ["box"] ["box"] (defScope sString) := ⟨rfl, rfl, rfl, by decide +kernel, rfl, by decide +kernel, by decide +kernel⟩
def menu : List Str := ["a", "b ", " files", "'", "{x}", "#", "a'{'", "1\n2", "other {", "~"]
def spString : Sp := fun vs H Q _ => ∃ (B d : Addr), vs = [.ref B] ∧ Box H B d ∧ ∀ s H', s ∈ menu → Go B H H' → Box H' B d → Q (.str s) H'
theorem pick {α : Type} {l : List α} {g : α → V} {z : Int} (h0 : 0 ≤ z) (h : z < (l.length : Int)) : ∃ x, x ∈ l ∧ atI (l.map g) z = some (g x) := by
  have hk : z.toNat < l.length := by omega
  exact ⟨l[z.toNat], List.getElem_mem hk, at_of (j := z.toNat) (by omega) (by rw [List.getElem?_map, List.getElem?_eq_getElem hk] <;> rfl)⟩
theorem ok_string {f fD : Addr} {fd fdD : FuncData} (F : Fun K "_law_string" "_law_string" sString f fd) (GD : FnOk P w K mg base CX0 1 fD fdD ["box", "many"] spDraw) (bD : Binds K fdD ["box", "many"] []) (kD : PySem.W.keepIn K (.ref fD) = true) (mD : mg "_law_draw" = some (.ref fD)) :
    FnOk P w K mg base CX0 2 f fd ["box"] spString := by
  refine F.ok scString (fun vs H Q E h => ?_) (fun cdv A outer s H vs Q E hr h => ?_)
  · obtain ⟨B, d, rfl, _⟩ := h
    rfl
  obtain ⟨B, d, rfl, hb, q⟩ := h
  refine ⟨_, pss_one (ps_ret (pe_ix ix_list (pe_lst (pa_cons pe_str (pa_cons pe_str (pa_cons pe_str (pa_cons pe_str (pa_cons pe_str (pa_cons pe_str (pa_cons pe_str (pa_cons pe_str (pa_cons pe_str (pa_cons pe_str pa_nil)))))))))))
    (pe_call GD hr rfl mD kD bD .nil pass0 (pa_cons (pv 0) (pa_cons pe_int pa_nil))) (fun _ _ => rfl))), ?_⟩
  refine ⟨by decide, fun l hl => ?_⟩
  have s1 : Same H (upd H l (.lst (menu.map V.str))) := same_new hl _
  have nB : l ≠ B := hb.neB hl
  refine ⟨_, rfl, B, d, 10, rfl, by decide, hb.same s1, fun z H' h0 h1 g hb' => ?_⟩
  obtain ⟨x, hx, ha⟩ := pick (l := menu) (g := V.str) (z := z) h0 (by show z < ((10 : Nat) : Int); omega)
  refine ⟨l, _, z, .str x, rfl, rfl, SqL.of (g.ext _ _ nB upd_same), ha, ?_⟩
  exact q x _ hx ((Go.new hl _).trans g) hb'
end
end Mw

namespace Mw
open PySem L2
/-! ### what the law's messages are -/
def T.notText : T → Bool
  | .text _ _ => false
  | _ => true
def T.lastText : T → Bool
  | .nil => false
  | .text _ r => match r with | .nil => true | _ => r.lastText
  | .shw _ r => r.lastText
  | .num r => r.lastText
  | .cho _ _ _ r => r.lastText
  | .cas _ _ r => r.lastText
def T.len : T → Nat
  | .nil => 0
  | .text _ r => r.len + 1
  | .shw _ r => r.len + 1
  | .num r => r.len + 1
  | .cho _ _ _ r => r.len + 1
  | .cas _ _ r => r.len + 1
def T.sz : T → Nat
  | .nil => 0
  | .text s r => 1 + s.length + r.sz
  | .shw _ r => 1 + r.sz
  | .num r => 1 + r.sz
  | .cho _ cs o r => 1 + cs.sz + o.sz + r.sz
  | .cas _ m r => 1 + m.sz + r.sz
def T.keys : T → List V
  | .cas k _ r => k :: r.keys
  | _ => []
def words3 : List Str := ["a", "one", "select"]
def nums4 : List Int := [0, 1, 2, 12]
def cats5 : List Str := ["zero", "one", "two", "few", "many"]
def names4 : List Str := ["n", "w", "who", "count"]
def skeys : List V := words3.map V.str
def pkeys : List V := nums4.map V.int ++ cats5.map V.str
/-- a choice's head, and what stands within it: inside a plural or not, its keys -/
inductive HdOk : List V → Bool → Bool → List V → Prop where
  | sel {n : Str} {i : Bool} {ks : List V} (hn : n = "w" ∨ n = "kind") (hk : ks.Sublist skeys) : HdOk [.str "select", .str n] i i ks
  | plu {n : Str} {off : Int} {i : Bool} {ks : List V} (hn : n = "n" ∨ n = "count") (ho : off = 0 ∨ off = 1 ∨ off = 2) (hk : ks.Sublist pkeys ∨ ks.Sublist pkeys.reverse) : HdOk [.str "plural", .str n, .int off] i true ks
/-- c: cases, not a message; d: so many levels of choices; i: inside a plural -/
def Gd : T → Bool → Nat → Bool → Prop
  | .nil, _, _, _ => True
  | .text s r, c, d, i => c = false ∧ s ∈ menu ∧ r.notText = true ∧ Gd r c d i
  | .shw n r, c, d, i => c = false ∧ n ∈ names4 ∧ Gd r c d i
  | .num r, c, d, i => c = false ∧ i = true ∧ Gd r c d i
  | .cho hd cs o r, c, d, i => c = false ∧ (∃ e j, d = e + 1 ∧ HdOk hd i j cs.keys ∧ Gd cs true e j ∧ Gd o false e j) ∧ Gd r c d i
  | .cas _ m r, c, d, i => c = true ∧ Gd m false d i ∧ Gd r c d i
theorem T.app_len (u : T) : ∀ t : T, (t.app u).len = t.len + u.len
  | .nil => by simp [T.app, T.len]
  | .text _ r => by simp [T.app, T.len, T.app_len u r]; omega
  | .shw _ r => by simp [T.app, T.len, T.app_len u r]; omega
  | .num r => by simp [T.app, T.len, T.app_len u r]; omega
  | .cho _ _ _ r => by simp [T.app, T.len, T.app_len u r]; omega
  | .cas _ _ r => by simp [T.app, T.len, T.app_len u r]; omega
theorem T.app_sz (u : T) : ∀ t : T, (t.app u).sz = t.sz + u.sz
  | .nil => by simp [T.app, T.sz]
  | .text _ r => by simp [T.app, T.sz, T.app_sz u r]; omega
  | .shw _ r => by simp [T.app, T.sz, T.app_sz u r]; omega
  | .num r => by simp [T.app, T.sz, T.app_sz u r]; omega
  | .cho _ _ _ r => by simp [T.app, T.sz, T.app_sz u r]; omega
  | .cas _ _ r => by simp [T.app, T.sz, T.app_sz u r]; omega
theorem T.app_keys (k : V) (m u : T) : ∀ (t : T) (d : Nat) (i : Bool), Gd t true d i → (t.app (.cas k m u)).keys = t.keys ++ k :: u.keys
  | .nil, _, _, _ => rfl
  | .text _ r, _, _, h => by cases h.1
  | .shw _ r, _, _, h => by cases h.1
  | .num r, _, _, h => by cases h.1
  | .cho _ _ _ r, _, _, h => by cases h.1
  | .cas _ _ r, d, i, h => by simp [T.app, T.keys, T.app_keys k m u r d i h.2.2]
theorem T.notText_app {r u : T} (h : r.notText = true) (hu : r = .nil → u.notText = true) : (r.app u).notText = true := by
  cases r <;> first | exact hu rfl | rfl | cases h
theorem Gd.app {u : T} {c : Bool} {d : Nat} {i : Bool} (hu : Gd u c d i) : ∀ {t : T}, Gd t c d i → (t.lastText = true → u.notText = true) → Gd (t.app u) c d i
  | .nil, _, _ => hu
  | .text s r, h, l => by
    refine ⟨h.1, h.2.1, T.notText_app h.2.2.1 (fun e => ?_), Gd.app hu h.2.2.2 (fun e => ?_)⟩
    · subst e
      exact l rfl
    · refine l ?_
      cases r <;> first | rfl | exact e
  | .shw n r, h, l => ⟨h.1, h.2.1, Gd.app hu h.2.2 l⟩
  | .num r, h, l => ⟨h.1, h.2.1, Gd.app hu h.2.2 l⟩
  | .cho hd cs o r, h, l => ⟨h.1, h.2.1, Gd.app hu h.2.2 l⟩
  | .cas k m r, h, l => ⟨h.1, h.2.1, Gd.app hu h.2.2 l⟩
theorem Nodes.length {H : Hp} : ∀ {t : T} {vs : List V}, Nodes H t vs → vs.length = t.len
  | .nil, _, h => by
    have h' : _ = [] := h
    subst h'
    rfl
  | .text s r, _, h => by
    obtain ⟨p, ws, rfl, _, hr⟩ := h
    exact congrArg (· + 1) hr.length
  | .shw n r, _, h => by
    obtain ⟨p, ws, rfl, _, hr⟩ := h
    exact congrArg (· + 1) hr.length
  | .num r, _, h => by
    obtain ⟨p, ws, rfl, _, hr⟩ := h
    exact congrArg (· + 1) hr.length
  | .cho hd cs o r, _, h => by
    obtain ⟨p, ws, ca, cvs, oa, ovs, rfl, _, _, _, _, _, hr⟩ := h
    exact congrArg (· + 1) hr.length
  | .cas k m r, _, h => by
    obtain ⟨p, ws, ma, mvs, rfl, _, _, _, hr⟩ := h
    exact congrArg (· + 1) hr.length
/-- a message's last node is a tuple whose first item tells whether it is a text -/
theorem Nodes.last {H : Hp} : ∀ {t : T} {vs : List V} {d : Nat} {i : Bool}, Nodes H t vs → Gd t false d i → vs ≠ [] → ∃ us p x xs, vs = us ++ [.ref p] ∧ H p = some (.tup (.str x :: xs)) ∧ (x = "text" ↔ t.lastText = true)
  | .nil, _, _, _, h, _, n => absurd h n
  | .text s r, _, d, i, h, g, _ => by
    obtain ⟨p, ws, rfl, hp, hr⟩ := h
    by_cases e : ws = []
    · subst e
      have : r = .nil := by
        have := hr.length
        cases r <;> first | rfl | (simp [T.len] at this)
      subst this
      exact ⟨[], p, _, _, rfl, hp, by simp [T.lastText]⟩
    · obtain ⟨us, q, x, xs, e1, e2, e3⟩ := Nodes.last hr g.2.2.2 e
      refine ⟨.ref p :: us, q, x, xs, by rw [e1]; rfl, e2, ?_⟩
      rw [e3]
      cases r <;> first | rfl | (exfalso; exact e hr)
  | .shw s r, _, d, i, h, g, _ => by
    obtain ⟨p, ws, rfl, hp, hr⟩ := h
    by_cases e : ws = []
    · subst e
      have : r = .nil := by
        have := hr.length
        cases r <;> first | rfl | (simp [T.len] at this)
      subst this
      exact ⟨[], p, _, _, rfl, hp, by simp [T.lastText]; decide⟩
    · obtain ⟨us, q, x, xs, e1, e2, e3⟩ := Nodes.last hr g.2.2 e
      exact ⟨.ref p :: us, q, x, xs, by rw [e1]; rfl, e2, e3⟩
  | .num r, _, d, i, h, g, _ => by
    obtain ⟨p, ws, rfl, hp, hr⟩ := h
    by_cases e : ws = []
    · subst e
      have : r = .nil := by
        have := hr.length
        cases r <;> first | rfl | (simp [T.len] at this)
      subst this
      exact ⟨[], p, _, _, rfl, hp, by simp [T.lastText]; decide⟩
    · obtain ⟨us, q, x, xs, e1, e2, e3⟩ := Nodes.last hr g.2.2 e
      exact ⟨.ref p :: us, q, x, xs, by rw [e1]; rfl, e2, e3⟩
  | .cho hd cs o r, _, d, i, h, g, _ => by
    obtain ⟨p, ws, ca, cvs, oa, ovs, rfl, hp, _, _, _, _, hr⟩ := h
    by_cases e : ws = []
    · subst e
      have : r = .nil := by
        have := hr.length
        cases r <;> first | rfl | (simp [T.len] at this)
      subst this
      obtain ⟨_, ⟨e', j, _, hh, _⟩, _⟩ := g
      cases hh with
      | sel => exact ⟨[], p, _, _, rfl, hp, by simp [T.lastText]; decide⟩
      | plu => exact ⟨[], p, _, _, rfl, hp, by simp [T.lastText]; decide⟩
    · obtain ⟨us, q, x, xs, e1, e2, e3⟩ := Nodes.last hr g.2.2 e
      exact ⟨.ref p :: us, q, x, xs, by rw [e1]; rfl, e2, e3⟩
  | .cas k m r, _, _, _, _, g, _ => by cases g.1
/-- the sizes by levels -/
def nodeW : Nat → Nat
  | 0 => 8
  | d + 1 => 10 + 30 * nodeW d
def msgW (d : Nat) : Nat := 3 * nodeW d
theorem nodeW_ge : ∀ d, 8 ≤ nodeW d
  | 0 => Nat.le_refl _
  | d + 1 => by have := nodeW_ge d; show 8 ≤ 10 + 30 * nodeW d; omega
theorem menu_len {s : Str} (h : s ∈ menu) : s.length ≤ 7 := by
  have a : ∀ s ∈ menu, s.length ≤ 7 := by decide +kernel
  exact a s h
end Mw

namespace Mw
open PySem L2
section
variable {P : Program} {w : World} {K : PySem.W.Frag} {mg : Str → Option Value} {base : Heap}
/-! ### the builder's promises -/
abbrev sSel : Stmt := top 33
abbrev sPlu : Stmt := top 34
abbrev sMsg : Stmt := top 35
theorem scSel : FnScope ["box", "depth", "inside", "cases", "word"] ["box", "depth", "inside"] (defScope sSel) := ⟨rfl, rfl, rfl, by decide +kernel, rfl, by decide +kernel, by decide +kernel⟩
theorem scPlu : FnScope ["box", "depth", "cases", "key"] ["box", "depth"] (defScope sPlu) := ⟨rfl, rfl, rfl, by decide +kernel, rfl, by decide +kernel, by decide +kernel⟩
theorem scMsg : FnScope ["box", "depth", "inside", "message", "turn", "kind"] ["box", "depth", "inside"] (defScope sMsg) := ⟨rfl, rfl, rfl, by decide +kernel, rfl, by decide +kernel, by decide +kernel⟩
/-- a new message of at most d levels -/
def spMsg (d : Nat) : Sp := fun vs H Q _ => ∃ (B b : Addr) (i : Bool), vs = [.ref B, .int d, .bl i] ∧ Box H B b ∧
  ∀ r H' t, Go B H H' → Box H' B b → At (fr H H') r t → Gd t false d i → t.sz ≤ msgW d → t.len ≤ 3 → Q (.ref r) H'
/-- a new node: a choice -/
def NodeAt (H H' : Hp) (p : Addr) (d : Nat) (i : Bool) : Prop := ∃ hd cs o, Nodes (fr H H') (.cho hd cs o .nil) [.ref p] ∧ Gd (.cho hd cs o .nil) false d i ∧ (T.cho hd cs o .nil).sz ≤ nodeW d
def spSel (d : Nat) : Sp := fun vs H Q _ => ∃ (B b : Addr) (i : Bool) (e : Nat), d = e + 1 ∧ vs = [.ref B, .int d, .bl i] ∧ Box H B b ∧ ∀ p H', Go B H H' → Box H' B b → NodeAt H H' p d i → Q (.ref p) H'
def spPlu (d : Nat) : Sp := fun vs H Q _ => ∃ (B b : Addr) (e : Nat), d = e + 1 ∧ vs = [.ref B, .int d] ∧ Box H B b ∧ ∀ p H', Go B H H' → Box H' B b → (∀ i, NodeAt H H' p d i) → Q (.ref p) H'
theorem sz_line {n : Nat} (h : n < 10000000) : n < sizeLine := Nat.lt_of_lt_of_le h (by decide)
theorem le_line {n : Nat} (h : n < 10000000) : n ≤ sizeLine := Nat.le_of_lt (sz_line h)
end
end Mw

namespace Mw
open PySem L2
def MsgInv (B b : Addr) (H H1 : Hp) (l : Addr) (d : Nat) (ins : Bool) (i : Nat) (σ : St) (H' : Hp) : Prop :=
  ∃ vs t o4 o5, σ = [some (.ref B), some (.int d), some (.bl ins), some (.ref l), o4, o5] ∧ Go B H H' ∧ Box H' B b ∧ H' l = some (.lst vs) ∧ Nodes (fr H1 H') t vs ∧ Gd t false d ins ∧ t.sz ≤ i * nodeW d ∧ t.len ≤ i
theorem dom1 {B l : Addr} {H H' : Hp} {o o' : HO} (g : Go B H H') (hl : H' l = some o') : ∀ c, H' c = none → upd H l o c = none := fun c hc => by
  rw [upd_ne (by rintro rfl; rw [hl] at hc; cases hc)]
  exact g.dom c hc
theorem MsgInv.grow {B b l p : Addr} {H H' H'' : Hp} {d : Nat} {ins : Bool} {i : Nat} {vs : List V} {t u : T} {o4 o5 : Option V} {o : HO} (hl0 : H l = none) (hlB : l ≠ B) (hlb : l ≠ b) (hB : ∃ o, H B = some o)
    (g : Go B H H') (hl : H' l = some (.lst vs)) (hn : Nodes (fr (upd H l o) H') t vs) (hg : Gd t false d ins) (hs : t.sz ≤ i * nodeW d) (hlen : t.len ≤ i)
    (g2 : Go B H' H'') (hb : Box H'' B b) (hu : Nodes (fr (upd H l o) H'') u [.ref p]) (gu : Gd u false d ins) (su : u.sz ≤ nodeW d) (lu : u.len = 1) (nt : t.lastText = true → u.notText = true) :
    MsgInv B b H (upd H l o) l d ins (i + 1) [some (.ref B), some (.int d), some (.bl ins), some (.ref l), o4, o5] (upd H'' l (.lst (vs ++ [.ref p]))) := by
  obtain ⟨oB, hB⟩ := hB
  have hB1 : upd H l o B = some oB := by rw [upd_ne hlB.symm]; exact hB
  refine ⟨vs ++ [.ref p], t.app u, o4, o5, rfl, (g.trans g2).mut hl0 _, hb.mut hlB hlb _, upd_same, ?_, hg |> fun h => Gd.app gu h nt, ?_, ?_⟩
  · exact Nodes.same (fr_mut upd_same _) (Nodes.app hu (Nodes.same (fr_go hB1 g2) hn))
  · rw [T.app_sz, Nat.add_mul, Nat.one_mul]
    omega
  · rw [T.app_len]
    omega
/-! ### tests that come to a Bool, the heap as it is -/
theorem t_or {t u : TT} {σ : L2.St} {H : Hp} {Q : Bool → Hp → Prop} (a b : Bool) (ht : ∀ Q : Bool → Hp → Prop, Q a H → t σ H Q) (hu : a = false → ∀ Q : Bool → Hp → Prop, Q b H → u σ H Q) (q : Q (a || b) H) : tOr t u σ H Q := by
  refine ht _ ?_
  cases a with
  | true => exact iteT q
  | false => exact iteF (hu rfl _ q)
theorem t_and {t u : TT} {σ : L2.St} {H : Hp} {Q : Bool → Hp → Prop} (a b : Bool) (ht : ∀ Q : Bool → Hp → Prop, Q a H → t σ H Q) (hu : a = true → ∀ Q : Bool → Hp → Prop, Q b H → u σ H Q) (q : Q (a && b) H) : tAnd t u σ H Q := by
  refine ht _ ?_
  cases a with
  | true => exact iteT (hu rfl _ q)
  | false => exact iteF q
theorem i_or {t u : TT} {tu tw : TS} {D : Ends} {σ : L2.St} {H : Hp} (a b : Bool) (ht : ∀ Q : Bool → Hp → Prop, Q a H → t σ H Q) (hu : a = false → ∀ Q : Bool → Hp → Prop, Q b H → u σ H Q) (q : if (a || b) = true then tu D σ H else tw D σ H) : tIfS (tOr t u) tu tw D σ H :=
  t_or (Q := fun c H1 => if c = true then tu D σ H1 else tw D σ H1) a b ht hu q
theorem int_eq {i j : Int} (h : V.int i = V.int j) : i = j := by cases h; rfl
theorem str_eq {i j : Str} (h : V.str i = V.str j) : i = j := by cases h; rfl
section
variable {P : Program} {w : World} {K : PySem.W.Frag} {mg : Str → Option Value} {base : Heap}
theorem pickL {l : List Str} {z : Int} (h0 : 0 ≤ z) (h : z < (l.length : Int)) : ∃ x, x ∈ l ∧ atI (l.map V.str) z = some (V.str x) := pick h0 h
theorem ok_msg {k d : Nat} {f fD fT fS fP : Addr} {fd fdD fdT fdS fdP : FuncData} (hk : 2 ≤ k) (F : Fun K "_law_message" "_law_message" sMsg f fd)
    (GD : FnOk P w K mg base CX0 1 fD fdD ["box", "many"] spDraw) (bD : Binds K fdD ["box", "many"] []) (kD : PySem.W.keepIn K (.ref fD) = true) (mD : mg "_law_draw" = some (.ref fD))
    (GT : FnOk P w K mg base CX0 2 fT fdT ["box"] spString) (bT : Binds K fdT ["box"] []) (kT : PySem.W.keepIn K (.ref fT) = true) (mT : mg "_law_string" = some (.ref fT))
    (GS : FnOk P w K mg base CX0 k fS fdS ["box", "depth", "inside"] (spSel d)) (bS : Binds K fdS ["box", "depth", "inside"] []) (kS : PySem.W.keepIn K (.ref fS) = true) (mS : mg "_law_select" = some (.ref fS))
    (GP : FnOk P w K mg base CX0 k fP fdP ["box", "depth"] (spPlu d)) (bP : Binds K fdP ["box", "depth"] []) (kP : PySem.W.keepIn K (.ref fP) = true) (mP : mg "_law_plural" = some (.ref fP))
    (mr : mg "range" = none) (ml : mg "len" = none) : FnOk P w K mg base CX0 (k + 1) f fd ["box", "depth", "inside"] (spMsg d) := by
  refine F.ok scMsg (fun vs H Q E h => ?_) (fun cdv A outer s H vs Q E hr h => ?_)
  · obtain ⟨B, b, i, rfl, _⟩ := h
    rfl
  obtain ⟨B, b, ins, rfl, hb, q⟩ := h
  have nd := scMsg.nd
  have hr1 : Room 1 _ := hr.mono (by omega)
  have hr2 : Room 2 _ := hr.mono hk
  refine ⟨_, pss_cons (ps_set (i := 3) nd rfl (.inl rfl) (pe_lst pa_nil))
    (pss_cons (ps_for PassesOwn.never rfl (pi_range1 rfl mr (pa_cons (pe_call GD hr1 rfl mD kD bD .nil pass0 (pa_cons (pv 0) (pa_cons pe_int pa_nil))) pa_nil)) (pg_name (i := 4) nd rfl (.inl rfl))
      (pss_cons (ps_set (i := 5) nd rfl (.inl rfl) (pe_call GD hr1 rfl mD kD bD .nil pass0 (pa_cons (pv 0) (pa_cons pe_int pa_nil))))
      (pss_one (ps_if (PW.pt (pw_or (pt_cmpR op_lt (pv 5) pe_int (nomark _)) (pw_or1 (PW.pt (pw_and (pt_cmpR op_eq (pv 1) pe_int (nomark _)) (pw_and1 (pt_cmpR op_gt (pv 5) pe_int (nomark _))))))))
        (pss_one (ps_if (PW.pt (pw_or (pt_cmpR op_eq (pe_callB call_len_seq (by rfl) ml PySem.boot_len (pa_cons (pv 3) pa_nil)) pe_int (nomark _)) (pw_or1 (pt_cmpR op_ne (pe_ix ix_tup (pe_ix ix_list (pv 3) (pe_un un_neg pe_int) (fun _ _ => rfl)) pe_int (fun _ _ => rfl)) pe_str (nomark _)))))
          (pss_one (ps_expr (pe_bm PySem.F.plainAttrs_list PySem.F.slot_list_append PySem.F.type_list_append mt_append (pv 3) (pa_cons (pe_tup (pa_cons pe_str (pa_cons (pe_call GT hr2 rfl mT kT bT .nil pass0 (pa_cons (pv 0) pa_nil)) pa_nil))) pa_nil)))) pss_nil))
        (pss_one (ps_if (pt_cmpR op_eq (pv 5) pe_int (nomark _))
          (pss_one (ps_expr (pe_bm PySem.F.plainAttrs_list PySem.F.slot_list_append PySem.F.type_list_append mt_append (pv 3) (pa_cons (pe_tup (pa_cons pe_str (pa_cons (pe_ix ix_list (pe_lst (pa_cons pe_str (pa_cons pe_str (pa_cons pe_str (pa_cons pe_str pa_nil))))) (pe_call GD hr1 rfl mD kD bD .nil pass0 (pa_cons (pv 0) (pa_cons pe_int pa_nil))) (fun _ _ => rfl)) pa_nil))) pa_nil))))
          (pss_one (ps_if (pt_cmpR op_eq (pv 5) pe_int (nomark _))
            (pss_one (ps_if (pt_val (pv 2)) (pss_one (ps_expr (pe_bm PySem.F.plainAttrs_list PySem.F.slot_list_append PySem.F.type_list_append mt_append (pv 3) (pa_cons (pe_tup (pa_cons pe_str pa_nil)) pa_nil)))) pss_nil))
            (pss_one (ps_if (pt_cmpR op_lt (pv 5) pe_int (nomark _))
              (pss_one (ps_expr (pe_bm PySem.F.plainAttrs_list PySem.F.slot_list_append PySem.F.type_list_append mt_append (pv 3) (pa_cons (pe_call GP hr rfl mP kP bP .nil pass0 (pa_cons (pv 0) (pa_cons (pv 1) pa_nil))) pa_nil))))
              (pss_one (ps_expr (pe_bm PySem.F.plainAttrs_list PySem.F.slot_list_append PySem.F.type_list_append mt_append (pv 3) (pa_cons (pe_call GS hr rfl mS kS bS .nil pass0 (pa_cons (pv 0) (pa_cons (pv 1) (pa_cons (pv 2) pa_nil)))) pa_nil))))))))))))))
    (pss_one (ps_ret (pv 3)))), ?_⟩
  refine ⟨Nat.zero_le _, fun l hl => ?_⟩
  have hlB := hb.neB hl
  have hlb := hb.neD hl
  have hBs := hb.isB
  refine ⟨_, rfl, B, b, 4, rfl, by decide, hb.new hl _, fun z H2 z0 z4 g2 hb2 => ?_⟩
  refine ⟨z, rfl, by omega, by omega, for_range (lo := 0) (n := z.toNat) (MsgInv B b H (upd H l (.lst [])) l d ins) ⟨[], .nil, none, none, rfl, (Go.new hl _).trans g2, hb2, g2.ext _ _ hlB upd_same, rfl, trivial, Nat.zero_le _, Nat.le_refl _⟩ ?_ ?_⟩
  rotate_left
  · rintro σ H' ⟨vs, t, o4, o5, rfl, g, hb', hl', hn, hg, hs, hlen⟩
    refine ⟨_, rfl, q l H' t g hb' ⟨vs, ?_, ?_⟩ hg ?_ (by omega)⟩
    · rw [fr_new hl]
      exact hl'
    · exact Nodes.same (fr_dom fun c hc => upd_none hc) hn
    · have : z.toNat * nodeW d ≤ 3 * nodeW d := Nat.mul_le_mul_right _ (by omega)
      exact Nat.le_trans hs this
  · rintro i σ H' hi ⟨vs, t, o4, o5, rfl, g, hb', hl', hn, hg, hs, hlen⟩
    have hvs : vs.length < 1000 := by
      rw [hn.length]
      omega
    refine ⟨_, rfl, B, b, 8, rfl, by decide, hb', fun kind H3 k0 k8 g3 hb3 => ?_⟩
    have hl3 : H3 l = some (.lst vs) := g3.ext _ _ hlB hl'
    have g03 := g.trans g3
    have hB1 : ∃ o, upd H l (HO.lst []) B = some o := by
      obtain ⟨o, h⟩ := hBs
      exact ⟨o, by rw [upd_ne hlB.symm]; exact h⟩
    have hn3 : Nodes (fr (upd H l (.lst [])) H3) t vs := by
      obtain ⟨o, h⟩ := hB1
      exact Nodes.same (fr_go h g3) hn
    dsimp only [gName]
    refine i_or (decide (kind < 3)) (decide (V.int (d : Int) = V.int 0) && decide (4 < kind)) (fun Q q => ⟨_, rfl, _, _, rfl, rfl, _, rfl, q⟩)
      (fun _ Q q => t_and (decide (V.int (d : Int) = V.int 0)) (decide (4 < kind)) (fun Q q => ⟨_, rfl, rfl, _, rfl, q⟩) (fun _ Q q => ⟨_, rfl, _, _, rfl, rfl, _, rfl, q⟩) q) ?_
    refine ite2 (fun c => ?_) (fun c => ?_)
    · -- a text
      refine i_or (decide (V.int (vs.length : Int) = V.int 0)) (!t.lastText) (fun Q q => ⟨_, rfl, l, _, rfl, .inl (SqL.of hl3), rfl, _, rfl, q⟩) (fun e Q q => ?_) ?_
      · have ne : vs ≠ [] := by
          rintro rfl
          cases e
        obtain ⟨us, p, x, xs, e1, e2, e3⟩ := Nodes.last hn3 hg ne
        refine ⟨_, rfl, 1, rfl, l, _, -1, .ref p, rfl, rfl, SqL.of hl3, by rw [e1]; exact atI_last _ _, p, _, 0, .str x, rfl, rfl, .inl (.inl (fr_out _ _ e2)), atI_nat (j := 0) rfl, rfl, _, rfl, ?_⟩
        have eb : (!t.lastText) = (!decide (V.str x = V.str "text")) := by
          cases ht : t.lastText with
          | true =>
            rw [e3.mpr ht, decide_eq_true rfl]
          | false =>
            rw [decide_eq_false]
            intro z
            rw [e3.mp (str_eq z)] at ht
            cases ht
        rw [← eb]
        exact q
      · refine ite2 (fun c2 => ?_) (fun c2 => ?_)
        · have nl : t.lastText = true → T.notText (.text "" .nil) = true := fun hlt => by
            exfalso
            rw [hlt] at c2
            have c3 := of_decide_eq_true ((Bool.or_false _).symm.trans c2)
            have : vs = [] := List.length_eq_zero_iff.mp (by have := int_eq c3; omega)
            subst this
            have ht : t = .nil := by
              have := hn3.length
              cases t <;> first | rfl | (simp [T.len] at this)
            subst ht
            cases hlt
          refine ⟨_, rfl, .inl ⟨rfl, _, SqL.of hl3⟩, _, rfl, B, b, rfl, hb3, fun x H4 hx g4 hb4 => ⟨by show 2 ≤ sizeLine; decide, fun p hp => ?_⟩⟩
          have hl4 : H4 l = some (.lst vs) := g4.ext _ _ hlB hl3
          have hp1 : upd H l (HO.lst []) p = none := dom1 (g03.trans g4) hl4 p hp
          refine ⟨l, _, _, rfl, rfl, (by rw [upd_ne (ne_of_none hl4 hp)]; exact hl4), sz_line (by omega), ?_⟩
          exact MsgInv.grow (u := .text x .nil) hl hlB hlb hBs g03 hl3 hn3 hg hs hlen (g4.trans (Go.new hp _)) (hb4.new hp _) ⟨p, [], rfl, by rw [fr_new hp1]; exact upd_same, rfl⟩ ⟨rfl, hx, rfl, trivial⟩
            (by have := menu_len hx; have := nodeW_ge d; show 1 + x.length + 0 ≤ _; omega) rfl nl
        · exact ⟨vs, t, _, _, rfl, g03, hb3, hl3, hn3, hg, by rw [Nat.add_mul]; omega, by omega⟩
    · -- another kind of node
      have hd1 : ¬ kind < 3 ∧ ¬ (d = 0 ∧ 4 < kind) := by
        constructor
        · intro h
          exact c (by rw [decide_eq_true h]; rfl)
        · rintro ⟨rfl, h⟩
          refine c ?_
          rw [decide_eq_true h]
          exact Bool.or_true _
      refine ⟨_, rfl, rfl, _, rfl, ite2 (fun c3 => ?_) (fun c3 => ⟨_, rfl, rfl, _, rfl, ite2 (fun c4 => ?_) (fun c4 => ⟨_, rfl, _, _, rfl, rfl, _, rfl, ite2 (fun c5 => ?_) (fun c5 => ?_)⟩)⟩)⟩
      · -- show
        refine ⟨_, rfl, .inl ⟨rfl, _, SqL.of hl3⟩, by decide, fun m hm => ?_⟩
        have hmB := hb3.neB hm
        refine ⟨_, rfl, B, b, 4, rfl, by decide, hb3.new hm _, fun z' H4 z0' z4' g4 hb4 => ?_⟩
        obtain ⟨x, hx, ha⟩ := pickL (l := names4) z0' (by show z' < ((4 : Nat) : Int); omega)
        refine ⟨m, _, z', .str x, rfl, rfl, SqL.of (g4.ext _ _ hmB upd_same), ha, by show 2 ≤ sizeLine; decide, fun p hp => ?_⟩
        have g34 : Go B H3 H4 := (Go.new hm _).trans g4
        have hl4 : H4 l = some (.lst vs) := g34.ext _ _ hlB hl3
        have hp1 : upd H l (HO.lst []) p = none := dom1 (g03.trans g34) hl4 p hp
        refine ⟨l, _, _, rfl, rfl, (by rw [upd_ne (ne_of_none hl4 hp)]; exact hl4), sz_line (by omega), ?_⟩
        exact MsgInv.grow (u := .shw x .nil) hl hlB hlb hBs g03 hl3 hn3 hg hs hlen (g34.trans (Go.new hp _)) (hb4.new hp _) ⟨p, [], rfl, by rw [fr_new hp1]; exact upd_same, rfl⟩ ⟨rfl, hx, trivial⟩
            (by have := nodeW_ge d; show 1 + 0 ≤ _; omega) rfl fun _ => rfl
      · -- number
        refine ⟨_, rfl, _, rfl, ite2 (fun c6 => ?_) (fun c6 => ?_)⟩
        · refine ⟨_, rfl, .inl ⟨rfl, _, SqL.of hl3⟩, by show 1 ≤ sizeLine; decide, fun p hp => ?_⟩
          have hp1 : upd H l (HO.lst []) p = none := dom1 g03 hl3 p hp
          refine ⟨l, _, _, rfl, rfl, (by rw [upd_ne (ne_of_none hl3 hp)]; exact hl3), sz_line (by omega), ?_⟩
          exact MsgInv.grow (u := .num .nil) hl hlB hlb hBs g03 hl3 hn3 hg hs hlen (Go.new hp _) (hb3.new hp _) ⟨p, [], rfl, by rw [fr_new hp1]; exact upd_same, rfl⟩ ⟨rfl, c6, trivial⟩
            (by have := nodeW_ge d; show 1 + 0 ≤ _; omega) rfl fun _ => rfl
        · exact ⟨vs, t, _, _, rfl, g03, hb3, hl3, hn3, hg, by rw [Nat.add_mul]; omega, by omega⟩
      all_goals
        have hk4 : ¬ kind = 4 := fun e => c4 (by rw [e]; rfl)
        have hk3 : ¬ kind = 3 := fun e => c3 (by rw [e]; rfl)
        obtain ⟨e, he⟩ : ∃ e, d = e + 1 := by
          cases d with
          | zero => exact absurd (by omega) (fun h => hd1.2 ⟨rfl, h⟩)
          | succ e => exact ⟨e, rfl⟩
      · refine ⟨_, rfl, .inl ⟨rfl, _, SqL.of hl3⟩, _, rfl, _, rfl, B, b, e, he, rfl, hb3, fun p H4 g4 hb4 hN => ?_⟩
        obtain ⟨hd', cs, o, n1, n2, n3⟩ := hN ins
        have hl4 : H4 l = some (.lst vs) := g4.ext _ _ hlB hl3
        refine ⟨l, _, _, rfl, rfl, hl4, sz_line (by omega), ?_⟩
        exact MsgInv.grow hl hlB hlb hBs g03 hl3 hn3 hg hs hlen g4 hb4 (Nodes.same (fr_dom (dom1 g03 hl3)) n1) n2 n3 rfl fun _ => rfl
      · refine ⟨_, rfl, .inl ⟨rfl, _, SqL.of hl3⟩, _, rfl, _, rfl, _, rfl, B, b, ins, e, he, rfl, hb3, fun p H4 g4 hb4 hN => ?_⟩
        obtain ⟨hd', cs, o, n1, n2, n3⟩ := hN
        have hl4 : H4 l = some (.lst vs) := g4.ext _ _ hlB hl3
        refine ⟨l, _, _, rfl, rfl, hl4, sz_line (by omega), ?_⟩
        exact MsgInv.grow hl hlB hlb hBs g03 hl3 hn3 hg hs hlen g4 hb4 (Nodes.same (fr_dom (dom1 g03 hl3)) n1) n2 n3 rfl fun _ => rfl
end
end Mw

namespace Mw
open PySem L2
def CasInv (B b l wl : Addr) (H H1 : Hp) (ks : List V) (e : Nat) (j : Bool) (i : Nat) (H' : Hp) : Prop :=
  ∃ vs t, Go B H H' ∧ Box H' B b ∧ H' wl = some (.lst ks) ∧ H' l = some (.lst vs) ∧ Nodes (fr H1 H') t vs ∧ Gd t true e j ∧ t.keys.Sublist (ks.take i) ∧ t.sz ≤ i * (1 + msgW e)
theorem CasInv.skip {B b l wl : Addr} {H H1 H' H'' : Hp} {ks : List V} {e : Nat} {j : Bool} {i : Nat} (h : CasInv B b l wl H H1 ks e j i H') (hlB : l ≠ B) (hwB : wl ≠ B) (hB : ∃ o, H1 B = some o) (g : Go B H' H'') (hb : Box H'' B b) : CasInv B b l wl H H1 ks e j i H'' := by
  obtain ⟨vs, t, g1, _, hw, hl, hn, hg, hk, hs⟩ := h
  obtain ⟨o, hB⟩ := hB
  exact ⟨vs, t, g1.trans g, hb, g.ext _ _ hwB hw, g.ext _ _ hlB hl, Nodes.same (fr_go hB g) hn, hg, hk, hs⟩
theorem take_mono {α : Type} {ys xs : List α} {i : Nat} (h : ys.Sublist (xs.take i)) : ys.Sublist (xs.take (i + 1)) :=
  h.trans (by rw [List.take_succ]; exact List.sublist_append_left _ _)
theorem CasInv.next {B b l wl : Addr} {H H1 H' : Hp} {ks : List V} {e : Nat} {j : Bool} {i : Nat} (h : CasInv B b l wl H H1 ks e j i H') : CasInv B b l wl H H1 ks e j (i + 1) H' := by
  obtain ⟨vs, t, g1, hb, hw, hl, hn, hg, hk, hs⟩ := h
  exact ⟨vs, t, g1, hb, hw, hl, hn, hg, take_mono hk, by rw [Nat.add_mul]; omega⟩
theorem CasInv.grow {B b l wl p r : Addr} {H H' H'' : Hp} {ks : List V} {e : Nat} {j : Bool} {i : Nat} {vs : List V} {t m : T} {k : V} {o : HO} (hl0 : H l = none) (hlB : l ≠ B) (hlb : l ≠ b) (hlw : wl ≠ l) (hwB : wl ≠ B) (hB : ∃ o, H B = some o)
    (g : Go B H H') (hl : H' l = some (.lst vs)) (hw : H' wl = some (.lst ks)) (hn : Nodes (fr (upd H l o) H') t vs) (hg : Gd t true e j) (hs : t.sz ≤ i * (1 + msgW e)) (hk : t.keys.Sublist (ks.take i)) (hki : ks[i]? = some k)
    (g2 : Go B H' H'') (hb : Box H'' B b) (hr : At (fr H' H'') r m) (gm : Gd m false e j) (sm : m.sz ≤ msgW e) (hp : H'' p = none) :
    CasInv B b l wl H (upd H l o) ks e j (i + 1) (upd (upd H'' p (.tup [k, .ref r])) l (.lst (vs ++ [.ref p]))) := by
  obtain ⟨oB, hB⟩ := hB
  have hB1 : upd H l o B = some oB := by rw [upd_ne hlB.symm]; exact hB
  have hl2 : H'' l = some (.lst vs) := g2.ext _ _ hlB hl
  have hw2 : H'' wl = some (.lst ks) := g2.ext _ _ hwB hw
  have hp1 : upd H l o p = none := dom1 (g.trans g2) hl2 p hp
  have s3 : Same H'' (upd H'' p (.tup [k, .ref r])) := same_new hp _
  have hu : Nodes (fr (upd H l o) (upd H'' p (.tup [k, .ref r]))) (.cas k m .nil) [.ref p] := by
    obtain ⟨ws, hr1, hr2⟩ := hr
    have sd : Same (fr H' H'') (fr (upd H l o) (upd H'' p (.tup [k, .ref r]))) := Same.trans (fr_dom (dom1 g hl)) (fr_same s3)
    exact ⟨p, [], r, ws, rfl, by rw [fr_new hp1]; exact upd_same, sd _ _ hr1, Nodes.same sd hr2, rfl⟩
  refine ⟨vs ++ [.ref p], t.app (.cas k m .nil), ((g.trans g2).trans (Go.new hp _)).mut hl0 _, (hb.new hp _).mut hlB hlb _, ?_, upd_same, ?_, ?_, ?_, ?_⟩
  · rw [upd_ne hlw]
    exact s3 _ _ hw2
  · exact Nodes.same (fr_mut upd_same _) (Nodes.app hu (Nodes.same (fr_same s3) (Nodes.same (fr_go hB1 g2) hn)))
  · exact Gd.app (show Gd (.cas k m .nil) true e j from ⟨rfl, gm, trivial⟩) hg fun _ => rfl
  · rw [T.app_keys k m .nil t e j hg, List.take_succ, hki]
    exact hk.append (List.Sublist.refl _)
  · rw [T.app_sz, Nat.add_mul, Nat.one_mul]
    have : (T.cas k m .nil).sz = 1 + m.sz := by simp [T.sz]
    omega
/-- the choice at the end -/
theorem cho_end {B l r p : Addr} {H H' H'' : Hp} {hd : List V} {e : Nat} {i j : Bool} {vs : List V} {t o : T} {ol : HO} (hl0 : H l = none) (hlB : l ≠ B) (hB : ∃ o, H B = some o)
    (g : Go B H H') (hl : H' l = some (.lst vs)) (hn : Nodes (fr (upd H l ol) H') t vs) (hg : Gd t true e j) (hs : t.sz ≤ 9 * (1 + msgW e))
    (g2 : Go B H' H'') (hr : At (fr H' H'') r o) (go : Gd o false e j) (so : o.sz ≤ msgW e) (hp : H'' p = none) (hh : HdOk hd i j t.keys) :
    NodeAt H (upd H'' p (.tup (hd ++ [.ref l, .ref r]))) p (e + 1) i := by
  obtain ⟨oB, hB⟩ := hB
  have hB1 : upd H l ol B = some oB := by rw [upd_ne hlB.symm]; exact hB
  have hl2 : H'' l = some (.lst vs) := g2.ext _ _ hlB hl
  have s3 : Same H'' (upd H'' p (.tup (hd ++ [.ref l, .ref r]))) := same_new hp _
  have hp0 : H p = none := (g.trans g2).dom p hp
  obtain ⟨ws, hr1, hr2⟩ := hr
  have sd : Same (fr H' H'') (fr H (upd H'' p (.tup (hd ++ [.ref l, .ref r])))) := Same.trans (fr_dom g.dom) (fr_same s3)
  refine ⟨hd, t, o, ⟨p, [], l, vs, r, ws, rfl, by rw [fr_new hp0]; exact upd_same, ?_, ?_, sd _ _ hr1, Nodes.same sd hr2, rfl⟩, ⟨rfl, ⟨e, j, rfl, hh, hg, go⟩, trivial⟩, ?_⟩
  · rw [fr_new hl0]
    exact s3 _ _ hl2
  · exact Nodes.same (Same.trans (fr_go hB1 g2) (Same.trans (fr_dom fun c hc => upd_none hc) (fr_same s3))) hn
  · show 1 + t.sz + o.sz + 0 ≤ 10 + 30 * nodeW e
    have e1 : msgW e = 3 * nodeW e := rfl
    rw [e1] at hs so
    omega
section
variable {P : Program} {w : World} {K : PySem.W.Frag} {mg : Str → Option Value} {base : Heap}
theorem args_m (B : Addr) (e : Nat) (i : Bool) : [V.ref B, V.int (((e + 1 : Nat) : Int) - 1), V.bl i] = [V.ref B, V.int (e : Int), V.bl i] := by
  rw [show ((e + 1 : Nat) : Int) - 1 = (e : Int) by omega]
theorem cas_len : ∀ (t : T) (d : Nat) (j : Bool), Gd t true d j → t.len = t.keys.length := by
  intro t
  induction t with
  | cas k m r _ ih => intro d j h; simp [T.len, T.keys, ih d j h.2.2]
  | nil => intro d j h; rfl
  | _ => intro d j h; cases h.1
theorem ok_sel {k e : Nat} {f fD fM : Addr} {fd fdD fdM : FuncData} (hk : 1 ≤ k) (F : Fun K "_law_select" "_law_select" sSel f fd)
    (GD : FnOk P w K mg base CX0 1 fD fdD ["box", "many"] spDraw) (bD : Binds K fdD ["box", "many"] []) (kD : PySem.W.keepIn K (.ref fD) = true) (mD : mg "_law_draw" = some (.ref fD))
    (GM : FnOk P w K mg base CX0 k fM fdM ["box", "depth", "inside"] (spMsg e)) (bM : Binds K fdM ["box", "depth", "inside"] []) (kM : PySem.W.keepIn K (.ref fM) = true) (mM : mg "_law_message" = some (.ref fM)) :
    FnOk P w K mg base CX0 (k + 1) f fd ["box", "depth", "inside"] (spSel (e + 1)) := by
  refine F.ok scSel (fun vs H Q E h => ?_) (fun cdv A outer s H vs Q E hr h => ?_)
  · obtain ⟨B, b, i, _, _, rfl, _⟩ := h
    rfl
  obtain ⟨B, b, ins, _, _, rfl, hb, q⟩ := h
  have nd := scSel.nd
  have hr1 : Room 1 _ := hr.mono hk
  refine ⟨_, pss_cons (ps_set (i := 3) nd rfl (.inl rfl) (pe_lst pa_nil))
    (pss_cons (ps_for PassesOwn.never rfl (pi_list (pe_lst (pa_cons pe_str (pa_cons pe_str (pa_cons pe_str pa_nil))))) (pg_name (i := 4) nd rfl (.inl rfl))
      (pss_one (ps_if (pt_cmpR op_eq (pe_call GD hr1 rfl mD kD bD .nil pass0 (pa_cons (pv 0) (pa_cons pe_int pa_nil))) pe_int (nomark _))
        (pss_one (ps_expr (pe_bm PySem.F.plainAttrs_list PySem.F.slot_list_append PySem.F.type_list_append mt_append (pv 3) (pa_cons (pe_tup (pa_cons (pv 4) (pa_cons (pe_call GM hr rfl mM kM bM .nil pass0 (pa_cons (pv 0) (pa_cons (pe_op op_sub (pv 1) pe_int) (pa_cons (pv 2) pa_nil)))) pa_nil))) pa_nil)))) pss_nil)))
    (pss_one (ps_ret (pe_tup (pa_cons pe_str (pa_cons (pe_ix ix_list (pe_lst (pa_cons pe_str (pa_cons pe_str pa_nil))) (pe_call GD hr1 rfl mD kD bD .nil pass0 (pa_cons (pv 0) (pa_cons pe_int pa_nil))) (fun _ _ => rfl)) (pa_cons (pv 3) (pa_cons (pe_call GM hr rfl mM kM bM .nil pass0 (pa_cons (pv 0) (pa_cons (pe_op op_sub (pv 1) pe_int) (pa_cons (pv 2) pa_nil)))) pa_nil)))))))), ?_⟩
  refine ⟨Nat.zero_le _, fun l hl => ?_⟩
  have hlB := hb.neB hl
  have hlb := hb.neD hl
  have hBs := hb.isB
  have hB1 : ∃ o, upd H l (HO.lst []) B = some o := by
    obtain ⟨o, h⟩ := hBs
    exact ⟨o, by rw [upd_ne hlB.symm]; exact h⟩
  refine ⟨by show 3 ≤ sizeLine; decide, fun wl hwl => ?_⟩
  have hb1 := hb.new hl (.lst [])
  have hwB := hb1.neB hwl
  have hwl' : wl ≠ l := by
    rintro rfl
    rw [upd_same] at hwl
    cases hwl
  refine ⟨wl, rfl, ⟨_, SqL.of upd_same⟩, for_list (xs := skeys) (fun i σ H' => ∃ o4, σ = [some (.ref B), some (.int ((e + 1 : Nat) : Int)), some (.bl ins), some (.ref l), o4] ∧ CasInv B b l wl H (upd H l (.lst [])) skeys e ins i H')
    ⟨none, rfl, [], .nil, (Go.new hl _).trans (Go.new hwl _), hb1.new hwl _, upd_same, by rw [upd_ne hwl'.symm]; exact upd_same, rfl, trivial, List.nil_sublist _, Nat.zero_le _⟩
    (fun i σ H' _ ⟨_, _, _, _, _, _, hw, _⟩ => SqL.of hw) ?_ ?_⟩
  · rintro i x σ H' hx ⟨o4, rfl, I⟩
    obtain ⟨vs0, t0, _, hbI, _⟩ := id I
    refine ⟨_, rfl, B, b, 3, rfl, by decide, hbI, fun z H3 z0 z3 g3 hb3 => ?_⟩
    have I3 := I.skip hlB hwB hB1 g3 hb3
    refine ⟨rfl, _, rfl, ite2 (fun c => ?_) (fun c => ?_)⟩
    · obtain ⟨vs, t, g1, _, hw, hl3, hn, hg, hks, hs⟩ := I3
      have hi3 : i < 3 := (List.getElem?_eq_some_iff.mp hx).1
      have hvs : vs.length < 1000 := by
        rw [hn.length]
        rw [cas_len t e ins hg]
        have := hks.length_le
        rw [List.length_take] at this
        omega
      refine ⟨_, rfl, .inl ⟨rfl, _, SqL.of hl3⟩, _, rfl, _, rfl, _, rfl, _, _, rfl, rfl, _, rfl, B, b, ins, args_m B e ins, hb3, fun r H4 m g4 hb4 hr4 gm sm _ => ?_⟩
      refine ⟨by show 2 ≤ sizeLine; decide, fun p hp => ?_⟩
      have hl4 : H4 l = some (.lst vs) := g4.ext _ _ hlB hl3
      refine ⟨l, _, _, rfl, rfl, (by rw [upd_ne (ne_of_none hl4 hp)]; exact hl4), sz_line (by omega), ?_⟩
      exact ⟨_, rfl, CasInv.grow hl hlB hlb hwl' hwB hBs g1 hl3 hw hn hg hs hks hx g4 hb4 hr4 gm sm hp⟩
    · exact ⟨_, rfl, I3.next⟩
  · rintro σ H' ⟨o4, rfl, I⟩
    obtain ⟨vs, t, g1, hb', hw, hl', hn, hg, hks, hs⟩ := I
    refine ⟨by decide, fun m hm => ?_⟩
    have hmB := hb'.neB hm
    refine ⟨_, rfl, B, b, 2, rfl, by decide, hb'.new hm _, fun z H3 z0 z2 g3 hb3 => ?_⟩
    obtain ⟨x, hx, ha⟩ := pickL (l := ["w", "kind"]) z0 (by show z < ((2 : Nat) : Int); omega)
    refine ⟨m, _, z, .str x, rfl, rfl, SqL.of (g3.ext _ _ hmB upd_same), ha, ?_⟩
    refine ⟨_, rfl, _, rfl, _, rfl, _, _, rfl, rfl, _, rfl, B, b, ins, args_m B e ins, hb3, fun r H4 o g4 hb4 hr4 go so _ => ?_⟩
    have g34 : Go B H' H3 := (Go.new hm _).trans g3
    refine ⟨by show 4 ≤ sizeLine; decide, fun p hp => ?_⟩
    refine q p _ ((g1.trans (g34.trans g4)).trans (Go.new hp _)) (hb4.new hp _) ?_
    have hl3 : H3 l = some (.lst vs) := g34.ext _ _ hlB hl'
    obtain ⟨oB, hB1'⟩ := hB1
    have sk : t.keys.Sublist skeys := by
      have : skeys.take skeys.length = skeys := List.take_length
      rw [this] at hks
      exact hks
    have hs9 : t.sz ≤ 9 * (1 + msgW e) := Nat.le_trans hs (Nat.mul_le_mul_right _ (by decide))
    exact cho_end (hd := [.str "select", .str x]) hl hlB hBs (g1.trans g34) hl3 (Nodes.same (fr_go hB1' g34) hn) hg hs9 g4 hr4 go so hp (.sel (by simpa using hx) sk)
end
end Mw

namespace Mw
open PySem L2
/-- cases backwards -/
def T.rev : T → T
  | .cas k m r => r.rev.app (.cas k m .nil)
  | _ => .nil
theorem Gd.rev {e : Nat} {j : Bool} : ∀ {t : T}, Gd t true e j → Gd t.rev true e j ∧ t.rev.keys = t.keys.reverse ∧ t.rev.sz = t.sz ∧ ∀ {H : Hp} {vs : List V}, Nodes H t vs → Nodes H t.rev vs.reverse
  | .nil, _ => ⟨trivial, rfl, rfl, fun {H vs} h => by
    have h' : vs = [] := h
    subst h'
    exact rfl⟩
  | .text _ _, h => by cases h.1
  | .shw _ _, h => by cases h.1
  | .num _, h => by cases h.1
  | .cho _ _ _ _, h => by cases h.1
  | .cas k m r, h => by
    obtain ⟨i1, i2, i3, i4⟩ := Gd.rev h.2.2
    refine ⟨Gd.app (show Gd (.cas k m .nil) true e j from ⟨rfl, h.2.1, trivial⟩) i1 fun _ => rfl, ?_, ?_, fun {H vs} hn => ?_⟩
    · show (r.rev.app (.cas k m .nil)).keys = (k :: r.keys).reverse
      rw [T.app_keys k m .nil r.rev e j i1, i2, List.reverse_cons]
      rfl
    · show (r.rev.app (.cas k m .nil)).sz = 1 + m.sz + r.sz
      rw [T.app_sz, i3]
      simp [T.sz]
      omega
    · obtain ⟨p, ws, ma, mvs, rfl, hp, hm, hms, hr⟩ := hn
      rw [List.reverse_cons]
      exact Nodes.app (show Nodes H (.cas k m .nil) [.ref p] from ⟨p, [], ma, mvs, rfl, hp, hm, hms, rfl⟩) (i4 hr)
section
variable {P : Program} {w : World} {K : PySem.W.Frag} {mg : Str → Option Value} {base : Heap}
theorem args_p (B : Addr) (e : Nat) : [V.ref B, V.int (((e + 1 : Nat) : Int) - 1), V.bl true] = [V.ref B, V.int (e : Int), V.bl true] := args_m B e true
theorem ok_plu {k e : Nat} {f fD fM : Addr} {fd fdD fdM : FuncData} (hk : 1 ≤ k) (F : Fun K "_law_plural" "_law_plural" sPlu f fd)
    (GD : FnOk P w K mg base CX0 1 fD fdD ["box", "many"] spDraw) (bD : Binds K fdD ["box", "many"] []) (kD : PySem.W.keepIn K (.ref fD) = true) (mD : mg "_law_draw" = some (.ref fD))
    (GM : FnOk P w K mg base CX0 k fM fdM ["box", "depth", "inside"] (spMsg e)) (bM : Binds K fdM ["box", "depth", "inside"] []) (kM : PySem.W.keepIn K (.ref fM) = true) (mM : mg "_law_message" = some (.ref fM)) :
    FnOk P w K mg base CX0 (k + 1) f fd ["box", "depth"] (spPlu (e + 1)) := by
  refine F.ok scPlu (fun vs H Q E h => ?_) (fun cdv A outer s H vs Q E hr h => ?_)
  · obtain ⟨B, b, _, _, rfl, _⟩ := h
    rfl
  obtain ⟨B, b, _, _, rfl, hb, q⟩ := h
  have nd := scPlu.nd
  have hr1 : Room 1 _ := hr.mono hk
  refine ⟨_, pss_cons (ps_set (i := 2) nd rfl (.inl rfl) (pe_lst pa_nil))
    (pss_cons (ps_for PassesOwn.never rfl (pi_list (pe_lst (pa_cons pe_int (pa_cons pe_int (pa_cons pe_int (pa_cons pe_int (pa_cons pe_str (pa_cons pe_str (pa_cons pe_str (pa_cons pe_str (pa_cons pe_str pa_nil))))))))))) (pg_name (i := 3) nd rfl (.inl rfl))
      (pss_one (ps_if (pt_cmpR op_eq (pe_call GD hr1 rfl mD kD bD .nil pass0 (pa_cons (pv 0) (pa_cons pe_int pa_nil))) pe_int (nomark _))
        (pss_one (ps_expr (pe_bm PySem.F.plainAttrs_list PySem.F.slot_list_append PySem.F.type_list_append mt_append (pv 2) (pa_cons (pe_tup (pa_cons (pv 3) (pa_cons (pe_call GM hr rfl mM kM bM .nil pass0 (pa_cons (pv 0) (pa_cons (pe_op op_sub (pv 1) pe_int) (pa_cons pe_bl pa_nil)))) pa_nil))) pa_nil)))) pss_nil)))
    (Evl.pss_cut (ps_if (pt_cmpR op_eq (pe_call GD hr1 rfl mD kD bD .nil pass0 (pa_cons (pv 0) (pa_cons pe_int pa_nil))) pe_int (nomark _))
        (pss_one (ps_expr (pe_bm0 PySem.F.plainAttrs_list PySem.F.slot_list_reverse PySem.F.type_list_reverse mt_reverse (pv 2)))) pss_nil)
    (pss_one (ps_ret (pe_tup (pa_cons pe_str (pa_cons (pe_ix ix_list (pe_lst (pa_cons pe_str (pa_cons pe_str pa_nil))) (pe_call GD hr1 rfl mD kD bD .nil pass0 (pa_cons (pv 0) (pa_cons pe_int pa_nil))) (fun _ _ => rfl))
      (pa_cons (pe_ix ix_list (pe_lst (pa_cons pe_int (pa_cons pe_int (pa_cons pe_int (pa_cons pe_int pa_nil))))) (pe_call GD hr1 rfl mD kD bD .nil pass0 (pa_cons (pv 0) (pa_cons pe_int pa_nil))) (fun _ _ => rfl))
      (pa_cons (pv 2) (pa_cons (pe_call GM hr rfl mM kM bM .nil pass0 (pa_cons (pv 0) (pa_cons (pe_op op_sub (pv 1) pe_int) (pa_cons pe_bl pa_nil)))) pa_nil)))))))))), ?_⟩
  refine ⟨Nat.zero_le _, fun l hl => ?_⟩
  have hlB := hb.neB hl
  have hlb := hb.neD hl
  have hBs := hb.isB
  have hB1 : ∃ o, upd H l (HO.lst []) B = some o := by
    obtain ⟨o, h⟩ := hBs
    exact ⟨o, by rw [upd_ne hlB.symm]; exact h⟩
  refine ⟨by show 9 ≤ sizeLine; decide, fun wl hwl => ?_⟩
  have hb1 := hb.new hl (.lst [])
  have hwB := hb1.neB hwl
  have hwl' : wl ≠ l := by
    rintro rfl
    rw [upd_same] at hwl
    cases hwl
  refine ⟨wl, rfl, ⟨_, SqL.of upd_same⟩, for_list (xs := pkeys) (fun i σ H' => ∃ o4, σ = [some (.ref B), some (.int ((e + 1 : Nat) : Int)), some (.ref l), o4] ∧ CasInv B b l wl H (upd H l (.lst [])) pkeys e true i H')
    ⟨none, rfl, [], .nil, (Go.new hl _).trans (Go.new hwl _), hb1.new hwl _, upd_same, by rw [upd_ne hwl'.symm]; exact upd_same, rfl, trivial, List.nil_sublist _, Nat.zero_le _⟩
    (fun i σ H' _ ⟨_, _, _, _, _, _, hw, _⟩ => SqL.of hw) ?_ ?_⟩
  · rintro i x σ H' hx ⟨o4, rfl, I⟩
    obtain ⟨vs0, t0, _, hbI, _⟩ := id I
    refine ⟨_, rfl, B, b, 5, rfl, by decide, hbI, fun z H3 z0 z3 g3 hb3 => ?_⟩
    have I3 := I.skip hlB hwB hB1 g3 hb3
    refine ⟨rfl, _, rfl, ite2 (fun c => ?_) (fun c => ?_)⟩
    · obtain ⟨vs, t, g1, _, hw, hl3, hn, hg, hks, hs⟩ := I3
      have hi3 : i < 9 := (List.getElem?_eq_some_iff.mp hx).1
      have hvs : vs.length < 1000 := by
        rw [hn.length]
        rw [cas_len t e true hg]
        have := hks.length_le
        rw [List.length_take] at this
        omega
      refine ⟨_, rfl, .inl ⟨rfl, _, SqL.of hl3⟩, _, rfl, _, rfl, _, rfl, _, _, rfl, rfl, B, b, true, args_p B e, hb3, fun r H4 m g4 hb4 hr4 gm sm _ => ?_⟩
      refine ⟨by show 2 ≤ sizeLine; decide, fun p hp => ?_⟩
      have hl4 : H4 l = some (.lst vs) := g4.ext _ _ hlB hl3
      refine ⟨l, _, _, rfl, rfl, (by rw [upd_ne (ne_of_none hl4 hp)]; exact hl4), sz_line (by omega), ?_⟩
      exact ⟨_, rfl, CasInv.grow hl hlB hlb hwl' hwB hBs g1 hl3 hw hn hg hs hks hx g4 hb4 hr4 gm sm hp⟩
    · exact ⟨_, rfl, I3.next⟩
  · rintro σ H' ⟨o4, rfl, I⟩
    obtain ⟨vs0, t0, _, hbI, _⟩ := id I
    refine ⟨fun σ' H3 => ∃ o4 vs t, σ' = [some (.ref B), some (.int ((e + 1 : Nat) : Int)), some (.ref l), o4] ∧ Go B H H3 ∧ Box H3 B b ∧ H3 l = some (.lst vs) ∧ Nodes (fr (upd H l (.lst [])) H3) t vs ∧ Gd t true e true ∧ (t.keys.Sublist pkeys ∨ t.keys.Sublist pkeys.reverse) ∧ t.sz ≤ 9 * (1 + msgW e), ?_, ?_⟩
    · refine ⟨_, rfl, B, b, 3, rfl, by decide, hbI, fun z H3 z0 z3 g3 hb3 => ?_⟩
      obtain ⟨vs, t, g1, _, hw, hl', hn, hg, hks, hs⟩ := I.skip hlB hwB hB1 g3 hb3
      have sk : t.keys.Sublist pkeys := by
        have : pkeys.take pkeys.length = pkeys := List.take_length
        rw [this] at hks
        exact hks
      have hs9 : t.sz ≤ 9 * (1 + msgW e) := hs
      refine ⟨rfl, _, rfl, ite2 (fun c => ?_) (fun c => ?_)⟩
      · refine ⟨_, rfl, .inl ⟨rfl, _, SqL.of hl'⟩, l, _, rfl, rfl, hl', ?_⟩
        obtain ⟨r1, r2, r3, r4⟩ := Gd.rev hg
        refine ⟨_, vs.reverse, t.rev, rfl, g1.mut hl _, hb3.mut hlB hlb _, upd_same, Nodes.same (fr_mut upd_same _) (r4 hn), r1, .inr ?_, by rw [r3]; exact hs9⟩
        rw [r2]
        exact sk.reverse
      · exact ⟨_, vs, t, rfl, g1, hb3, hl', hn, hg, .inl sk, hs9⟩
    · rintro σ' H2 ⟨o4, vs, t, rfl, g1, hb', hl', hn, hg, hks, hs9⟩
      refine ⟨by decide, fun m hm => ?_⟩
      have hmB := hb'.neB hm
      refine ⟨_, rfl, B, b, 2, rfl, by decide, hb'.new hm _, fun z H3 z0 z2 g3 hb3 => ?_⟩
      obtain ⟨x, hx, ha⟩ := pickL (l := ["n", "count"]) z0 (by show z < ((2 : Nat) : Int); omega)
      refine ⟨m, _, z, .str x, rfl, rfl, SqL.of (g3.ext _ _ hmB upd_same), ha, ?_⟩
      have g23 : Go B H2 H3 := (Go.new hm _).trans g3
      refine ⟨by decide, fun m' hm' => ?_⟩
      have hmB' := hb3.neB hm'
      refine ⟨_, rfl, B, b, 4, rfl, by decide, hb3.new hm' _, fun z' H4 z0' z2' g4 hb4 => ?_⟩
      obtain ⟨y, hy, ha'⟩ := pick (l := ([0, 0, 1, 2] : List Int)) (g := V.int) z0' (by show z' < ((4 : Nat) : Int); omega)
      refine ⟨m', _, z', .int y, rfl, rfl, SqL.of (g4.ext _ _ hmB' upd_same), ha', ?_⟩
      have g24 : Go B H2 H4 := g23.trans ((Go.new hm' _).trans g4)
      refine ⟨_, rfl, _, rfl, _, rfl, _, _, rfl, rfl, B, b, true, args_p B e, hb4, fun r H5 o g5 hb5 hr5 go so _ => ?_⟩
      refine ⟨by show 5 ≤ sizeLine; decide, fun p hp => ?_⟩
      refine q p _ ((g1.trans (g24.trans g5)).trans (Go.new hp _)) (hb5.new hp _) fun i => ?_
      have hl3 : H4 l = some (.lst vs) := g24.ext _ _ hlB hl'
      obtain ⟨oB, hB1'⟩ := hB1
      exact cho_end (hd := [.str "plural", .str x, .int y]) (i := i) hl hlB hBs (g1.trans g24) hl3 (Nodes.same (fr_go hB1' g24) hn) hg hs9 g5 hr5 go so hp (.plu (by simpa using hx) (by simpa using hy) hks)
end
end Mw

namespace Mw
open PySem L2
/-! ### nodes one by one -/
def HdW (hd : List V) : Prop := (∃ n, hd = [.str "select", .str n]) ∨ ∃ n off, hd = [.str "plural", .str n, .int off]
def KeyW (k : V) : Prop := (∃ s, k = .str s) ∨ ∃ i, k = .int i
/-- what any message is, and any chain of cases (c) -/
def Wf : T → Bool → Prop
  | .nil, _ => True
  | .text _ r, c => c = false ∧ Wf r c
  | .shw _ r, c => c = false ∧ Wf r c
  | .num r, c => c = false ∧ Wf r c
  | .cho hd cs o r, c => c = false ∧ HdW hd ∧ Wf cs true ∧ Wf o false ∧ Wf r c
  | .cas k m r, c => c = true ∧ KeyW k ∧ Wf m false ∧ Wf r c
def T.single : T → Prop
  | .nil => False
  | .text _ r => r = .nil
  | .shw _ r => r = .nil
  | .num r => r = .nil
  | .cho _ _ _ r => r = .nil
  | .cas _ _ r => r = .nil
def T.isCho : T → Bool
  | .cho _ _ _ _ => true
  | _ => false
def T.isText : T → Bool
  | .text _ _ => true
  | _ => false
def T.nodes : T → List T
  | .nil => []
  | .text s r => .text s .nil :: r.nodes
  | .shw n r => .shw n .nil :: r.nodes
  | .num r => .num .nil :: r.nodes
  | .cho hd cs o r => .cho hd cs o .nil :: r.nodes
  | .cas k m r => .cas k m .nil :: r.nodes
def T.msgs : T → List T
  | .cas _ m r => m :: r.msgs
  | _ => []
def T.inner : T → List T
  | .cho _ cs o _ => cs.msgs ++ [o]
  | _ => []
def Ns (H : Hp) : List T → List V → Prop
  | [], vs => vs = []
  | u :: us, vs => ∃ v ws, vs = v :: ws ∧ Nodes H u [v] ∧ Ns H us ws
def Ats (H : Hp) : List T → List V → Prop
  | [], vs => vs = []
  | t :: ts, vs => ∃ a ws, vs = .ref a :: ws ∧ At H a t ∧ Ats H ts ws
theorem At.same {H H' : Hp} {a : Addr} {t : T} (s : Same H H') (h : At H a t) : At H' a t := by
  obtain ⟨vs, h1, h2⟩ := h
  exact ⟨vs, s _ _ h1, Nodes.same s h2⟩
theorem Ns.same {H H' : Hp} (s : Same H H') : ∀ {us : List T} {vs : List V}, Ns H us vs → Ns H' us vs
  | [], _, h => h
  | u :: us, _, h => by
    obtain ⟨v, ws, rfl, h1, h2⟩ := h
    exact ⟨v, ws, rfl, Nodes.same s h1, Ns.same s h2⟩
theorem Ats.same {H H' : Hp} (s : Same H H') : ∀ {us : List T} {vs : List V}, Ats H us vs → Ats H' us vs
  | [], _, h => h
  | u :: us, _, h => by
    obtain ⟨v, ws, rfl, h1, h2⟩ := h
    exact ⟨v, ws, rfl, h1.same s, Ats.same s h2⟩
theorem Ns.length {H : Hp} : ∀ {us : List T} {vs : List V}, Ns H us vs → vs.length = us.length
  | [], _, h => by rw [show _ = [] from h]; rfl
  | u :: us, _, h => by
    obtain ⟨v, ws, rfl, _, h2⟩ := h
    exact congrArg (· + 1) h2.length
theorem Ats.length {H : Hp} : ∀ {us : List T} {vs : List V}, Ats H us vs → vs.length = us.length
  | [], _, h => by rw [show _ = [] from h]; rfl
  | u :: us, _, h => by
    obtain ⟨v, ws, rfl, _, h2⟩ := h
    exact congrArg (· + 1) h2.length
theorem Ns.append {H : Hp} {us' : List T} {vs' : List V} (h' : Ns H us' vs') : ∀ {us : List T} {vs : List V}, Ns H us vs → Ns H (us ++ us') (vs ++ vs')
  | [], _, h => by rw [show _ = [] from h]; exact h'
  | u :: us, _, h => by
    obtain ⟨v, ws, rfl, h1, h2⟩ := h
    exact ⟨v, ws ++ vs', rfl, h1, Ns.append h' h2⟩
theorem Ats.append {H : Hp} {us' : List T} {vs' : List V} (h' : Ats H us' vs') : ∀ {us : List T} {vs : List V}, Ats H us vs → Ats H (us ++ us') (vs ++ vs')
  | [], _, h => by rw [show _ = [] from h]; exact h'
  | u :: us, _, h => by
    obtain ⟨v, ws, rfl, h1, h2⟩ := h
    exact ⟨v, ws ++ vs', rfl, h1, Ats.append h' h2⟩
theorem Ns.get {H : Hp} : ∀ {us : List T} {vs : List V} {i : Nat} {v : V}, Ns H us vs → vs[i]? = some v → ∃ u, us[i]? = some u ∧ Nodes H u [v]
  | [], _, i, v, h, e => by
    rw [show _ = [] from h] at e
    simp at e
  | u :: us, _, 0, v, h, e => by
    obtain ⟨x, ws, rfl, h1, h2⟩ := h
    have : x = v := by simpa using e
    subst this
    exact ⟨u, rfl, h1⟩
  | u :: us, _, i + 1, v, h, e => by
    obtain ⟨x, ws, rfl, h1, h2⟩ := h
    obtain ⟨u', e1, e2⟩ := Ns.get (i := i) h2 (by simpa using e)
    exact ⟨u', by simpa using e1, e2⟩
theorem Ats.get {H : Hp} : ∀ {us : List T} {vs : List V} {i : Nat} {v : V}, Ats H us vs → vs[i]? = some v → ∃ u a, us[i]? = some u ∧ v = .ref a ∧ At H a u
  | [], _, i, v, h, e => by
    rw [show _ = [] from h] at e
    simp at e
  | u :: us, _, 0, v, h, e => by
    obtain ⟨x, ws, rfl, h1, h2⟩ := h
    have : V.ref x = v := by simpa using e
    subst this
    exact ⟨u, x, rfl, rfl, h1⟩
  | u :: us, _, i + 1, v, h, e => by
    obtain ⟨x, ws, rfl, h1, h2⟩ := h
    obtain ⟨u', a, e1, e2⟩ := Ats.get (i := i) h2 (by simpa using e)
    exact ⟨u', a, by simpa using e1, e2⟩
theorem Nodes.ns {H : Hp} : ∀ {t : T} {vs : List V}, Nodes H t vs → Ns H t.nodes vs
  | .nil, _, h => h
  | .text s r, _, h => by
    obtain ⟨p, ws, rfl, hp, hr⟩ := h
    exact ⟨_, ws, rfl, ⟨p, [], rfl, hp, rfl⟩, Nodes.ns hr⟩
  | .shw n r, _, h => by
    obtain ⟨p, ws, rfl, hp, hr⟩ := h
    exact ⟨_, ws, rfl, ⟨p, [], rfl, hp, rfl⟩, Nodes.ns hr⟩
  | .num r, _, h => by
    obtain ⟨p, ws, rfl, hp, hr⟩ := h
    exact ⟨_, ws, rfl, ⟨p, [], rfl, hp, rfl⟩, Nodes.ns hr⟩
  | .cho hd cs o r, _, h => by
    obtain ⟨p, ws, ca, cvs, oa, ovs, rfl, hp, hc, hcs, ho, hos, hr⟩ := h
    exact ⟨_, ws, rfl, ⟨p, [], ca, cvs, oa, ovs, rfl, hp, hc, hcs, ho, hos, rfl⟩, Nodes.ns hr⟩
  | .cas k m r, _, h => by
    obtain ⟨p, ws, ma, mvs, rfl, hp, hm, hms, hr⟩ := h
    exact ⟨_, ws, rfl, ⟨p, [], ma, mvs, rfl, hp, hm, hms, rfl⟩, Nodes.ns hr⟩
theorem Ns.nodes {H : Hp} : ∀ {t : T} {vs : List V}, Ns H t.nodes vs → Nodes H t vs
  | .nil, _, h => h
  | .text s r, _, h => by
    obtain ⟨v, ws, rfl, ⟨p, _, e, hp, _⟩, hr⟩ := h
    cases e
    exact ⟨p, ws, rfl, hp, Ns.nodes hr⟩
  | .shw n r, _, h => by
    obtain ⟨v, ws, rfl, ⟨p, _, e, hp, _⟩, hr⟩ := h
    cases e
    exact ⟨p, ws, rfl, hp, Ns.nodes hr⟩
  | .num r, _, h => by
    obtain ⟨v, ws, rfl, ⟨p, _, e, hp, _⟩, hr⟩ := h
    cases e
    exact ⟨p, ws, rfl, hp, Ns.nodes hr⟩
  | .cho hd cs o r, _, h => by
    obtain ⟨v, ws, rfl, ⟨p, _, ca, cvs, oa, ovs, e, hp, hc, hcs, ho, hos, _⟩, hr⟩ := h
    cases e
    exact ⟨p, ws, ca, cvs, oa, ovs, rfl, hp, hc, hcs, ho, hos, Ns.nodes hr⟩
  | .cas k m r, _, h => by
    obtain ⟨v, ws, rfl, ⟨p, _, ma, mvs, e, hp, hm, hms, _⟩, hr⟩ := h
    cases e
    exact ⟨p, ws, ma, mvs, rfl, hp, hm, hms, Ns.nodes hr⟩
/-- a node of a message: what its tuple begins with -/
theorem node_of {H : Hp} {u : T} {v : V} (h : Nodes H u [v]) (w : Wf u false) : ∃ p x xs, v = .ref p ∧ H p = some (.tup (.str x :: xs)) ∧ u.single ∧
    ((x = "select" ∨ x = "plural") ↔ u.isCho = true) ∧ (x = "text" ↔ u.isText = true) := by
  cases u with
  | nil => cases (show [v] = [] from h)
  | text s r =>
    obtain ⟨p, ws, e, hp, hr⟩ := h
    cases e
    have : r = .nil := by
      have := hr.length
      cases r <;> first | rfl | (simp [T.len] at this)
    exact ⟨p, _, _, rfl, hp, this, by simp [T.isCho]; decide, by simp [T.isText]⟩
  | shw n r =>
    obtain ⟨p, ws, e, hp, hr⟩ := h
    cases e
    have : r = .nil := by
      have := hr.length
      cases r <;> first | rfl | (simp [T.len] at this)
    exact ⟨p, _, _, rfl, hp, this, by simp [T.isCho]; decide, by simp [T.isText]; decide⟩
  | num r =>
    obtain ⟨p, ws, e, hp, hr⟩ := h
    cases e
    have : r = .nil := by
      have := hr.length
      cases r <;> first | rfl | (simp [T.len] at this)
    exact ⟨p, _, _, rfl, hp, this, by simp [T.isCho]; decide, by simp [T.isText]; decide⟩
  | cho hd cs o r =>
    obtain ⟨p, ws, ca, cvs, oa, ovs, e, hp, _, _, _, _, hr⟩ := h
    cases e
    have : r = .nil := by
      have := hr.length
      cases r <;> first | rfl | (simp [T.len] at this)
    rcases w.2.1 with ⟨n, rfl⟩ | ⟨n, off, rfl⟩
    · exact ⟨p, _, _, rfl, hp, this, by simp [T.isCho], by simp [T.isText]; decide⟩
    · exact ⟨p, _, _, rfl, hp, this, by simp [T.isCho], by simp [T.isText]; decide⟩
  | cas k m r => cases w.1
theorem Nodes.msgs {H : Hp} : ∀ {t : T} {vs : List V}, Nodes H t vs → Wf t true → ∃ ms, Ats H t.msgs ms ∧ vs.length = ms.length ∧ ∀ (i : Nat) (v : V), vs[i]? = some v → ∃ (p : Addr) (k : V) (a : Addr), v = V.ref p ∧ H p = some (.tup [k, .ref a]) ∧ ms[i]? = some (V.ref a)
  | .nil, _, h, _ => ⟨[], rfl, by rw [show _ = [] from h], fun i v e => by rw [show _ = [] from h] at e; simp at e⟩
  | .text s r, _, h, w => by cases w.1
  | .shw n r, _, h, w => by cases w.1
  | .num r, _, h, w => by cases w.1
  | .cho hd cs o r, _, h, w => by cases w.1
  | .cas k m r, _, h, w => by
    obtain ⟨p, ws, ma, mvs, rfl, hp, hm, hms, hr⟩ := h
    obtain ⟨ms, h1, h2, h3⟩ := Nodes.msgs hr w.2.2.2
    refine ⟨.ref ma :: ms, ⟨ma, ms, rfl, ⟨mvs, hm, hms⟩, h1⟩, congrArg (· + 1) h2, fun i v e => ?_⟩
    cases i with
    | zero =>
      have : V.ref p = v := by simpa using e
      subst this
      exact ⟨p, k, ma, rfl, hp, rfl⟩
    | succ i =>
      obtain ⟨q, k', a, e1, e2, e3⟩ := h3 i v (by simpa using e)
      exact ⟨q, k', a, e1, e2, by simpa using e3⟩
end Mw

namespace Mw
open PySem L2
theorem atI_m1 {α : Type} (xs : List α) (a b : α) : atI (xs ++ [a, b]) (-1) = some b := by
  rw [show xs ++ [a, b] = (xs ++ [a]) ++ [b] by simp]
  exact atI_last _ _
theorem atI_m2 {α : Type} (xs : List α) (a b : α) : atI (xs ++ [a, b]) (-2) = some a := by
  unfold atI ixN
  have hl : (xs ++ [a, b]).length = xs.length + 2 := by simp
  rw [if_neg (by decide), if_pos (by rw [hl]; omega), hl]
  show (xs ++ [a, b])[((-2 : Int) + ((xs.length + 2 : Nat) : Int)).toNat]? = some a
  rw [show ((-2 : Int) + ((xs.length + 2 : Nat) : Int)).toNat = xs.length by omega]
  rw [List.getElem?_append_right (Nat.le_refl _), Nat.sub_self]
  rfl
section
variable {P : Program} {w : World} {K : PySem.W.Frag} {mg : Str → Option Value} {base : Heap}
theorem in_two (x a b : Str) : inV (.str x) [.str a, .str b] = decide (x = a ∨ x = b) := by
  have h : ∀ c d : Str, (c == d) = decide (d = c) := fun c d => by
    by_cases e : d = c
    · subst e
      simp
    · rw [decide_eq_false e]
      exact beq_eq_false_iff_ne.mpr fun z => e z.symm
  unfold inV
  simp only [List.any_cons, List.any_nil, Bool.or_false, eqV, h]
  exact (Bool.decide_or _ _).symm
/-! ### cases_of, other_of -/
abbrev sCases : Stmt := top 6
abbrev sOther : Stmt := top 7
theorem scCases : FnScope ["node"] ["node"] (defScope sCases) := ⟨rfl, rfl, rfl, by decide +kernel, rfl, by decide +kernel, by decide +kernel⟩
theorem scOther : FnScope ["node"] ["node"] (defScope sOther) := ⟨rfl, rfl, rfl, by decide +kernel, rfl, by decide +kernel, by decide +kernel⟩
def spCases : Sp := fun vs H Q _ => ∃ (p ca oa : Addr) (hd cvs : List V), vs = [.ref p] ∧ H p = some (.tup (hd ++ [.ref ca, .ref oa])) ∧ H ca = some (.lst cvs) ∧ ∀ l, H l = none → Q (.ref l) (upd H l (.lst cvs))
def spOther : Sp := fun vs H Q _ => ∃ (p ca oa : Addr) (hd : List V), vs = [.ref p] ∧ H p = some (.tup (hd ++ [.ref ca, .ref oa])) ∧ Q (.ref oa) H
theorem ok_cases {f : Addr} {fd : FuncData} (F : Fun K "cases_of" "cases_of" sCases f fd) (ml : mg "list" = none) : FnOk P w K mg base CX0 1 f fd ["node"] spCases := by
  refine F.ok scCases (fun vs H Q E h => ?_) (fun cdv A outer s H vs Q E hr h => ?_)
  · obtain ⟨p, ca, oa, hd, cvs, rfl, _⟩ := h
    rfl
  obtain ⟨p, ca, oa, hd, cvs, rfl, hp, hc, q⟩ := h
  refine ⟨_, pss_one (ps_ret (pe_callTy call_list_of (by rfl) ml (by decide +kernel) (pa_cons (pe_ix ix_tup (pv 0) (pe_un un_neg pe_int) (fun _ _ => rfl)) pa_nil))), ?_⟩
  exact ⟨_, rfl, 2, rfl, p, _, -2, .ref ca, rfl, rfl, .inl (.inl hp), atI_m2 _ _ _, ca, _, rfl, .inl (SqL.of hc), q⟩
theorem ok_other {f : Addr} {fd : FuncData} (F : Fun K "other_of" "other_of" sOther f fd) : FnOk P w K mg base CX0 1 f fd ["node"] spOther := by
  refine F.ok scOther (fun vs H Q E h => ?_) (fun cdv A outer s H vs Q E hr h => ?_)
  · obtain ⟨p, ca, oa, hd, rfl, _⟩ := h
    rfl
  obtain ⟨p, ca, oa, hd, rfl, hp, q⟩ := h
  refine ⟨_, pss_one (ps_ret (pe_ix ix_tup (pv 0) (pe_un un_neg pe_int) (fun _ _ => rfl))), ?_⟩
  exact ⟨_, rfl, 1, rfl, p, _, -1, .ref oa, rfl, rfl, .inl (.inl hp), atI_m1 _ _ _, q⟩
theorem len_sz : ∀ t : T, t.len ≤ t.sz
  | .nil => Nat.le_refl _
  | .text s r => by have := len_sz r; simp only [T.len, T.sz]; omega
  | .shw s r => by have := len_sz r; simp only [T.len, T.sz]; omega
  | .num r => by have := len_sz r; simp only [T.len, T.sz]; omega
  | .cho _ _ _ r => by have := len_sz r; simp only [T.len, T.sz]; omega
  | .cas _ _ r => by have := len_sz r; simp only [T.len, T.sz]; omega
end
end Mw

namespace Mw
open PySem L2
abbrev tl (x : Str) : List Nat := x.cps.toList
def catS (ys : List Str) : Str := ⟨((ys.map tl).flatten).toArray⟩
theorem joinL_nil : ∀ ls : List (List Nat), TL.joinL [] ls = ls.flatten
  | [] => rfl
  | [p] => by simp [TL.joinL]
  | p :: q :: r => by
    show p ++ ([] ++ TL.joinL [] (q :: r)) = _
    rw [joinL_nil (q :: r)]
    simp
theorem join_cat (ys : List Str) : Txt.join ("" : Str) ys = catS ys := by
  rw [TL.join_eq]
  refine TL.ext_tl ?_
  rw [TL.tl_join]
  show TL.joinL [] _ = _
  rw [joinL_nil]
  rfl
theorem cat_add (ys : List Str) (s : Str) : catS (ys ++ [s]) = catS ys ++ s := by
  refine TL.ext_tl ?_
  rw [TL.tl_append]
  show ((ys ++ [s]).map tl).flatten = (ys.map tl).flatten ++ tl s
  simp
theorem cat_nil : catS [] = ("" : Str) := rfl
theorem cat_len (ys : List Str) : (catS ys).length = (ys.map (·.length)).sum := by
  rw [TL.len_tl]
  show ((ys.map tl).flatten).length = _
  rw [List.length_flatten]
  congr 1
  rw [List.map_map]
  exact List.map_congr_left fun s _ => (TL.len_tl s).symm
theorem len_zero {s : Str} : s.length = 0 ↔ s = ("" : Str) := by
  constructor
  · intro h
    refine TL.ext_tl ?_
    rw [TL.len_tl] at h
    exact List.length_eq_zero_iff.mp h
  · rintro rfl
    rfl
/-- a text as a chain: none if it is empty -/
def txt (s : Str) (u : T) : T := if s = ("" : Str) then u else .text s u
/-- texts joined, not within choices -/
def jt (a : List Str) : T → T
  | .nil => txt (catS a) .nil
  | .text s r => jt (a ++ [s]) r
  | .shw n r => txt (catS a) (.shw n (jt [] r))
  | .num r => txt (catS a) (.num (jt [] r))
  | .cho hd cs o r => txt (catS a) (.cho hd cs o (jt [] r))
  | .cas k m r => txt (catS a) (.cas k m (jt [] r))
section
variable {P : Program} {w : World} {K : PySem.W.Frag} {mg : Str → Option Value} {base : Heap}
/-! ### text_nodes -/
abbrev sTn : Stmt := top 8
theorem scTn : FnScope ["strings", "joined"] ["strings"] (defScope sTn) := ⟨rfl, rfl, rfl, by decide +kernel, rfl, by decide +kernel, by decide +kernel⟩
def spTn : Sp := fun vs H Q _ => ∃ (a : Addr) (ys : List Str), vs = [.ref a] ∧ H a = some (.lst (ys.map V.str)) ∧ (ys.map (·.length)).sum < 1000000 ∧ ∀ l H' ws, H l = none → Same H H' → H' l = some (.lst ws) → Nodes H' (txt (catS ys) .nil) ws → ws.length ≤ 1 → Q (.ref l) H'
theorem ok_tn {f : Addr} {fd : FuncData} (F : Fun K "text_nodes" "text_nodes" sTn f fd) : FnOk P w K mg base CX0 1 f fd ["strings"] spTn := by
  refine F.ok scTn (fun vs H Q E h => ?_) (fun cdv A outer s H vs Q E hr h => ?_)
  · obtain ⟨a, ys, rfl, _⟩ := h
    rfl
  obtain ⟨a, ys, rfl, ha, hz, q⟩ := h
  have nd := scTn.nd
  refine ⟨_, pss_cons (ps_set (i := 1) nd rfl (.inl rfl) (pe_join pe_str (pv 0)))
    (pss_one (ps_ret (pe_ifExp (pt_truth (pv 1) (by intro _; rfl)) (pe_lst (pa_cons (pe_tup (pa_cons pe_str (pa_cons (pv 1) pa_nil))) pa_nil)) (pe_lst pa_nil)))), ?_⟩
  refine ⟨⟨_, rfl⟩, _, rfl, _, a, ys, rfl, rfl, .inl (SqL.of ha), ?_, ?_⟩
  · show (ys.map (·.length)).sum + ys.length * 0 ≤ 16777216
    omega
  show ∃ v, _ ∧ _
  refine ⟨_, rfl, _, ⟨?_, rfl⟩, ?_⟩
  · rw [join_cat, cat_len]
    exact le_line (by omega)
  rw [join_cat]
  by_cases e : catS ys = ("" : Str)
  · have e0 : (((catS ys).length : Int) != 0) = false := by
      rw [len_zero.mpr e]
      rfl
    rw [e0]
    refine iteF ⟨Nat.zero_le _, fun l hl => ?_⟩
    refine q l _ [] hl (same_new hl _) upd_same ?_ (Nat.zero_le _)
    unfold txt
    rw [if_pos e]
    exact rfl
  · have e0 : (((catS ys).length : Int) != 0) = true := by
      have : (catS ys).length ≠ 0 := fun z => e (len_zero.mp z)
      exact bne_iff_ne.mpr (by omega)
    rw [e0]
    refine iteT ⟨_, rfl, by show 2 ≤ sizeLine; decide, fun p hp => ⟨by show 1 ≤ sizeLine; decide, fun l hl => ?_⟩⟩
    have s1 : Same H (upd H p (.tup [.str "text", .str (catS ys)])) := same_new hp _
    refine q l _ [.ref p] (s1.free hl) (s1.trans (same_new hl _)) upd_same ?_ (Nat.le_refl _)
    unfold txt
    rw [if_neg e]
    exact ⟨p, [], rfl, by rw [upd_ne (ne_of_none upd_same hl)]; exact upd_same, rfl⟩
end
end Mw

namespace Mw
open PySem L2
/-- the old heap, and new tuples -/
def mix (H H1 : Hp) : Hp := fun a => match H a with
  | some o => some o
  | none => match H1 a with
    | some (.tup xs) => some (.tup xs)
    | _ => none
theorem mix_old {H H1 : Hp} : Same H (mix H H1) := fun a o h => by
  unfold mix
  rw [h]
theorem mix_new {H H1 : Hp} {p : Addr} {xs : List V} (s : Same H H1) (h : H1 p = some (.tup xs)) : mix H H1 p = some (.tup xs) := by
  unfold mix
  cases e : H p with
  | none =>
    simp only
    rw [h]
  | some o =>
    simp only
    rw [s _ _ e] at h
    exact h
theorem mix_in {H H1 : Hp} {a : Addr} {o : HO} (h : mix H H1 a = some o) : H a = some o ∨ (H a = none ∧ ∃ xs, o = .tup xs ∧ H1 a = some (.tup xs)) := by
  unfold mix at h
  cases e : H a with
  | some o' =>
    rw [e] at h
    exact .inl h
  | none =>
    rw [e] at h
    simp only at h
    split at h
    · cases h
      exact .inr ⟨rfl, _, rfl, by assumption⟩
    · cases h
theorem mix_same {H H1 H2 : Hp} (s : Same H1 H2) : Same (mix H H1) (mix H H2) := fun a o h => by
  rcases mix_in h with k | ⟨h0, xs, rfl, k⟩
  · exact mix_old _ _ k
  · unfold mix
    rw [h0]
    simp only
    rw [s _ _ k]
theorem mix_mut {H H1 : Hp} {l : Addr} {xs ys : List V} (hl : H1 l = some (.lst xs)) : Same (mix H H1) (mix H (upd H1 l (.lst ys))) := fun a o h => by
  rcases mix_in h with k | ⟨h0, zs, rfl, k⟩
  · exact mix_old _ _ k
  · unfold mix
    rw [h0]
    simp only
    rw [upd_ne (by rintro rfl; rw [hl] at k; cases k), k]
theorem mix_out {H H1 : Hp} (s : Same H H1) : Same (mix H H1) H1 := fun a o h => by
  rcases mix_in h with k | ⟨h0, xs, rfl, k⟩
  · exact s _ _ k
  · exact k
theorem mix_txt {H H1 : Hp} {x : Str} {ws : List V} (s : Same H H1) (h : Nodes H1 (txt x .nil) ws) : Nodes (mix H H1) (txt x .nil) ws := by
  unfold txt at *
  split at h
  · rename_i e
    rw [if_pos e]
    exact h
  · rename_i e
    rw [if_neg e]
    obtain ⟨p, ws', rfl, hp, hr⟩ := h
    exact ⟨p, ws', rfl, mix_new s hp, hr⟩
/-- nodes one behind the other -/
def ch : List T → T
  | [] => .nil
  | u :: us => u.app (ch us)
theorem ch_nodes : ∀ t : T, ch t.nodes = t
  | .nil => rfl
  | .text s r => congrArg (T.text s) (ch_nodes r)
  | .shw s r => congrArg (T.shw s) (ch_nodes r)
  | .num r => congrArg T.num (ch_nodes r)
  | .cho hd cs o r => congrArg (T.cho hd cs o) (ch_nodes r)
  | .cas k m r => congrArg (T.cas k m) (ch_nodes r)
theorem app_nil : ∀ t : T, t.app .nil = t
  | .nil => rfl
  | .text s r => congrArg (T.text s) (app_nil r)
  | .shw s r => congrArg (T.shw s) (app_nil r)
  | .num r => congrArg T.num (app_nil r)
  | .cho hd cs o r => congrArg (T.cho hd cs o) (app_nil r)
  | .cas k m r => congrArg (T.cas k m) (app_nil r)
theorem app_assoc (u v : T) : ∀ t : T, (t.app u).app v = t.app (u.app v)
  | .nil => rfl
  | .text s r => congrArg (T.text s) (app_assoc u v r)
  | .shw s r => congrArg (T.shw s) (app_assoc u v r)
  | .num r => congrArg T.num (app_assoc u v r)
  | .cho hd cs o r => congrArg (T.cho hd cs o) (app_assoc u v r)
  | .cas k m r => congrArg (T.cas k m) (app_assoc u v r)
theorem txt_app (s : Str) (u v : T) : (txt s u).app v = txt s (u.app v) := by
  unfold txt
  split <;> rfl
theorem txt_nil (s : Str) (v : T) : (txt s .nil).app v = txt s v := txt_app s .nil v
theorem nodes_wf : ∀ {t : T} {c : Bool}, Wf t c → ∀ u ∈ t.nodes, Wf u c
  | .nil, _, _, u, h => by cases h
  | .text s r, _, w, u, h => by
    rcases List.mem_cons.mp h with rfl | h
    · exact ⟨w.1, trivial⟩
    · exact nodes_wf w.2 u h
  | .shw s r, _, w, u, h => by
    rcases List.mem_cons.mp h with rfl | h
    · exact ⟨w.1, trivial⟩
    · exact nodes_wf w.2 u h
  | .num r, _, w, u, h => by
    rcases List.mem_cons.mp h with rfl | h
    · exact ⟨w.1, trivial⟩
    · exact nodes_wf w.2 u h
  | .cho hd cs o r, _, w, u, h => by
    rcases List.mem_cons.mp h with rfl | h
    · exact ⟨w.1, w.2.1, w.2.2.1, w.2.2.2.1, trivial⟩
    · exact nodes_wf w.2.2.2.2 u h
  | .cas k m r, _, w, u, h => by
    rcases List.mem_cons.mp h with rfl | h
    · exact ⟨w.1, w.2.1, w.2.2.1, trivial⟩
    · exact nodes_wf w.2.2.2 u h
/-- the joining at one node -/
theorem jt_one (ss : List Str) {u : T} (w : Wf u false) (hs : u.single) (hu : u.isText = false) (r : T) : jt ss (u.app r) = (txt (catS ss) .nil).app (u.app (jt [] r)) := by
  rw [txt_nil]
  cases u with
  | nil => cases hs
  | text s r' => cases hu
  | shw n r' => cases (show r' = .nil from hs); rfl
  | num r' => cases (show r' = .nil from hs); rfl
  | cho hd cs o r' => cases (show r' = .nil from hs); rfl
  | cas k m r' => cases w.1
section
variable {P : Program} {w : World} {K : PySem.W.Frag} {mg : Str → Option Value} {base : Heap}
/-! ### joined_texts -/
abbrev sJt : Stmt := top 9
theorem scJt : FnScope ["message", "nodes", "strings", "node"] ["message"] (defScope sJt) := ⟨rfl, rfl, rfl, by decide +kernel, rfl, by decide +kernel, by decide +kernel⟩
def spJt : Sp := fun vs H Q _ => ∃ (a : Addr) (H0 : Hp) (t : T), vs = [.ref a] ∧ Same H0 H ∧ At H0 a t ∧ Wf t false ∧ t.sz < 100000 ∧ ∀ l H' ws, H l = none → Same H H' → H' l = some (.lst ws) → Nodes (mix H0 H') (jt [] t) ws → Q (.ref l) H'
theorem ok_jt {f fT : Addr} {fd fdT : FuncData} (F : Fun K "joined_texts" "joined_texts" sJt f fd) (GT : FnOk P w K mg base CX0 1 fT fdT ["strings"] spTn) (bT : Binds K fdT ["strings"] []) (kT : PySem.W.keepIn K (.ref fT) = true) (mT : mg "text_nodes" = some (.ref fT)) :
    FnOk P w K mg base CX0 2 f fd ["message"] spJt := by
  refine F.ok scJt (fun vs H Q E h => ?_) (fun cdv A outer s H vs Q E hr h => ?_)
  · obtain ⟨a, H0, t, rfl, _⟩ := h
    rfl
  obtain ⟨a, H0, t, rfl, h0, ⟨vs, ha, hn⟩, hw, hz, q⟩ := h
  have nd := scJt.nd
  refine ⟨_, pss_cons (ps_set (i := 1) nd rfl (.inl rfl) (pe_lst pa_nil)) (pss_cons (ps_set (i := 2) nd rfl (.inl rfl) (pe_lst pa_nil))
    (pss_cons (ps_for PassesOwn.never rfl (pi_list (pv 0)) (pg_name (i := 3) nd rfl (.inl rfl))
      (pss_one (ps_if (pt_cmpR op_eq (pe_ix ix_tup (pv 3) pe_int (fun _ _ => rfl)) pe_str (nomark _))
        (pss_one (ps_expr (pe_bm PySem.F.plainAttrs_list PySem.F.slot_list_append PySem.F.type_list_append mt_append (pv 2) (pa_cons (pe_ix ix_tup (pv 3) pe_int (fun _ _ => rfl)) pa_nil))))
        (pss_cons (ps_expr (pe_bm PySem.F.plainAttrs_list PySem.F.slot_list_extend PySem.F.type_list_extend mt_extend (pv 1) (pa_cons (pe_call GT hr rfl mT kT bT .nil pass0 (pa_cons (pv 2) pa_nil)) pa_nil)))
        (pss_cons (ps_set (i := 2) nd rfl (.inl rfl) (pe_lst pa_nil))
        (pss_one (ps_expr (pe_bm PySem.F.plainAttrs_list PySem.F.slot_list_append PySem.F.type_list_append mt_append (pv 1) (pa_cons (pv 3) pa_nil)))))))))
    (pss_one (ps_ret (pe_op op_cat (pv 1) (pe_call GT hr rfl mT kT bT .nil pass0 (pa_cons (pv 2) pa_nil))))))), ?_⟩
  refine ⟨Nat.zero_le _, fun nl hnl => ⟨Nat.zero_le _, fun sl hsl => ?_⟩⟩
  have s1 : Same H (upd H nl (.lst [])) := same_new hnl _
  have s2 : Same H (upd (upd H nl (.lst [])) sl (.lst [])) := s1.trans (same_new hsl _)
  have hlen : vs.length < 100000 := by
    rw [hn.length]
    exact Nat.lt_of_le_of_lt (len_sz t) hz
  have hns := hn.ns
  refine ⟨_, rfl, a, rfl, ⟨_, SqL.of (s2 _ _ (h0 _ _ ha))⟩, for_list (K := K) (a := a) (xs := vs) (fun i σ H' => ∃ (sl : Addr) (o3 : Option V) (ss : List Str) (ws : List V) (done : T), σ = [some (.ref a), some (.ref nl), some (.ref sl), o3] ∧ Same H H' ∧ H sl = none ∧ sl ≠ nl ∧ H' sl = some (.lst (ss.map V.str)) ∧ H' nl = some (.lst ws) ∧ Nodes (mix H0 H') done ws ∧ jt [] t = done.app (jt ss (ch (t.nodes.drop i))) ∧ (ss.map (·.length)).sum + ss.length + (ch (t.nodes.drop i)).sz ≤ t.sz ∧ ws.length ≤ 2 * i)
    ⟨sl, none, [], [], .nil, rfl, s2, upd_none hsl, (fun e => by rw [e, upd_same] at hsl; cases hsl), upd_same, (by rw [upd_ne (ne_of_none upd_same hsl)]; exact upd_same), rfl, (by rw [List.drop_zero, ch_nodes]; rfl), (by rw [List.drop_zero, ch_nodes]; exact Nat.le_of_eq (Nat.zero_add _)), Nat.le_refl _⟩
    (fun i σ H' _ ⟨_, _, _, _, _, _, s', _⟩ => SqL.of (s' _ _ (h0 _ _ ha))) ?_ ?_⟩
  · rintro i x σ H' hx ⟨sl, o3, ss, ws, done, rfl, s', hs0, hsn, hs, hw', hd, hj, hsz, hwl⟩
    obtain ⟨u, hu, hun⟩ := hns.get hx
    have hi : i < vs.length := (List.getElem?_eq_some_iff.mp hx).1
    have uw : Wf u false := nodes_wf hw u (List.mem_of_getElem? hu)
    obtain ⟨p, y, ys, rfl, hp, hsg, _, htx⟩ := node_of hun uw
    have hdrop : t.nodes.drop i = u :: t.nodes.drop (i + 1) := by
      have e := List.getElem?_eq_some_iff.mp hu
      rw [List.drop_eq_getElem_cons e.1, e.2]
    rw [hdrop] at hj hsz
    have hsz' : (ss.map (·.length)).sum + ss.length + (u.sz + (ch (t.nodes.drop (i + 1))).sz) ≤ t.sz := by
      have := hsz
      rw [show ch (u :: t.nodes.drop (i + 1)) = u.app (ch (t.nodes.drop (i + 1))) from rfl, T.app_sz] at this
      exact this
    refine ⟨_, rfl, p, _, 0, .str y, rfl, rfl, .inl (.inl (s' _ _ (h0 _ _ hp))), atI_nat (j := 0) rfl, rfl, _, rfl, ite2 (fun c => ?_) (fun c => ?_)⟩
    · have ht := htx.mp (str_eq (of_decide_eq_true c))
      cases u with
      | text st r =>
        cases (show r = .nil from hsg)
        obtain ⟨p', _, e, hp', _⟩ := hun
        cases e
        refine ⟨_, rfl, .inl ⟨rfl, _, SqL.of hs⟩, _, rfl, p, _, 1, .str st, rfl, rfl, .inl (.inl (s' _ _ (h0 _ _ hp'))), atI_nat (j := 1) rfl, sl, _, _, rfl, rfl, hs, ?_, ?_⟩
        · rw [List.length_map]
          exact sz_line (by omega)
        · refine ⟨sl, _, ss ++ [st], ws, done, rfl, same_mut s' hs0 _, hs0, hsn, ?_, ?_, Nodes.same (mix_mut hs) hd, hj, ?_, by omega⟩
          · rw [upd_same, List.map_append]
            rfl
          · rw [upd_ne hsn.symm]
            exact hw'
          · rw [List.map_append, List.sum_append, List.length_append]
            simp only [T.sz] at hsz'
            simp only [List.map_cons, List.map_nil, List.sum_cons, List.sum_nil, List.length_singleton]
            omega
      | _ => cases ht
    · have ht : u.isText = false := by
        cases e : u.isText with
        | false => rfl
        | true =>
          refine absurd ?_ c
          rw [htx.mpr e]
          exact decide_eq_true rfl
      have hwb : ws.length < 200000 := by omega
      refine ⟨_, rfl, .inl ⟨rfl, _, SqL.of hw'⟩, _, rfl, sl, ss, rfl, hs, by omega, fun l H2 xs hl s3 hl2 hx2 hx1 => ?_⟩
      refine ⟨nl, l, ws, xs, rfl, rfl, s3 _ _ hw', hl2, le_line (by omega), Nat.zero_le _, fun sl' hsl' => ?_⟩
      have hHl : H l = none := s'.free hl
      have s4 : Same H H2 := s'.trans s3
      have hnl0 : H nl = none := hnl
      have s5 : Same H (upd H2 nl (.lst (ws ++ xs))) := same_mut s4 hnl0 _
      have s6 : Same H (upd (upd H2 nl (.lst (ws ++ xs))) sl' (.lst [])) := s5.trans (same_new hsl' _)
      have hsn' : sl' ≠ nl := fun e => by rw [e, upd_same] at hsl'; cases hsl'
      have hn6 : upd (upd H2 nl (.lst (ws ++ xs))) sl' (.lst []) nl = some (.lst (ws ++ xs)) := by rw [upd_ne hsn'.symm]; exact upd_same
      refine ⟨_, rfl, .inl ⟨rfl, _, SqL.of hn6⟩, _, rfl, nl, _, _, rfl, rfl, hn6, sz_line (by rw [List.length_append]; omega), ?_⟩
      refine ⟨sl', _, [], ws ++ xs ++ [.ref p], (done.app (txt (catS ss) .nil)).app u, rfl, same_mut s6 hnl0 _, s5.free hsl', hsn', ?_, upd_same, ?_, ?_, ?_, ?_⟩
      · rw [upd_ne hsn']
        exact upd_same
      · have d1 : Nodes (mix H0 H2) done ws := Nodes.same (mix_same s3) hd
        have d2 : Nodes (mix H0 H2) (txt (catS ss) .nil) xs := mix_txt (h0.trans s4) hx2
        have d3 : Nodes (mix H0 H2) u [.ref p] := Nodes.same mix_old hun
        have d4 := Nodes.app d3 (Nodes.app d2 d1)
        exact Nodes.same (mix_mut hn6) (Nodes.same (mix_same (same_new hsl' _)) (Nodes.same (mix_mut (s3 _ _ hw')) d4))
      · rw [hj, show ch (u :: t.nodes.drop (i + 1)) = u.app (ch (t.nodes.drop (i + 1))) from rfl, jt_one ss uw hsg ht]
        rw [app_assoc, app_assoc]
      · simp only [List.map_nil, List.sum_nil, List.length_nil]
        omega
      · rw [List.length_append, List.length_append, List.length_singleton]
        omega
  · rintro σ H' ⟨sl, o3, ss, ws, done, rfl, s', hs0, hsn, hs, hw', hd, hj, hsz, hwl⟩
    refine ⟨_, rfl, _, rfl, sl, ss, rfl, hs, by omega, fun l H2 xs hl s3 hl2 hx2 hx1 => ?_⟩
    have s4 : Same H H2 := s'.trans s3
    refine ⟨nl, l, ws, xs, rfl, rfl, s3 _ _ hw', hl2, le_line (by omega), fun r hr => ?_⟩
    refine q r _ (ws ++ xs) (s4.free hr) (s4.trans (same_new hr _)) upd_same ?_
    have e : t.nodes.drop vs.length = [] := by
      rw [hns.length]
      exact List.drop_length
    rw [e] at hj
    rw [hj]
    exact Nodes.same (mix_same (same_new hr _)) (Nodes.app (mix_txt (h0.trans s4) hx2) (Nodes.same (mix_same s3) hd))
end
end Mw

/-! d.get(key, other), d a dict that the module wrote -/
namespace Kg
open PySem PySem.Spec PyProof.Rows L2
def tKGet (K : PySem.W.Frag) (d : Addr) (td ty tx : TE) : TE := fun σ H Q => td σ H fun x H1 => x = .ref d ∧ ty σ H1 fun y H2 => tx σ H2 fun z H3 => ∃ (t : Str) (r : Option Value) (v : V), y = .str t ∧ PySem.W.nsIn K d t = some r ∧ (∀ u, r = some u → RelV v u) ∧ Q (if r.isSome then v else z) H3
section
variable {X : Cx} {o e f : Expr} {apos cpos : Pos} {td ty tx : TE} {d : Addr} {es : Array DictEntry} {n : Nat}
theorem pe_kget (D : KDict X.K X.w d es n) (ho : PE X o td) (he : PE X e ty) (hf : PE X f tx) (m : M2 X o "get" apos e f cpos) : PE X (.Call (.Attribute o "get" apos) [e, f] [] cpos) (tKGet X.K d td ty tx) := by
  refine ⟨fun pins s σ H Q I h => ?_⟩
  refine wpAny_Call_method m.base m.few m.line PySem.F.plainAttrs_dict PySem.F.slot_dict_get PySem.F.type_dict_get (thn (ho.run pins s σ H _ I h) fun u s1 ⟨x, H1, I1, rx, ex, q1⟩ => ?_)
  subst ex
  obtain rfl : u = Value.ref d := rx
  have M1 := PySem.W.mapOf_K (prog := X.prog) (w := X.w) I1.kIn D.at_ D.lit
  have hob : s1.heap.get? d = some (⟨.type "dict", none, .dict es n, #[]⟩ : Obj) := I1.kIn _ _ D.at_
  refine ⟨M1.typeIs, fun b q => by cases q; exact ⟨_, hob, rfl⟩, ?_⟩
  rw [m.trees]
  refine Calls.callWith_builtin rfl (Calls.evalArgs_plain (Calls.spliced_cons (thn (he.run pins s1 σ H1 _ I1 q1) fun iv s2 ⟨y, H2, I2, ry, q2⟩ =>
    Calls.spliced_cons (thn (hf.run pins s2 σ H2 _ I2 q2) fun fv s3 ⟨z, H3, I3, rz, t, r, v, ey, en, rv, q3⟩ => Calls.spliced_nil ?_))))
  subst ey
  obtain ⟨tk, rfl⟩ := ry
  have M3 := PySem.W.mapOf_K (prog := X.prog) (w := X.w) I3.kIn D.at_ D.lit
  refine call_meetsIn PySem.F.slot_dict_get M3.typeIs PySem.F.entry_dict_get (PySem.F.args_dict_get_3 _ _ _) (meets_dict_get_default (strKind X.prog X.w) d (PySem.strKind_is X.prog X.w t tk) D.low fv) ⟨_, M3, ?_⟩
  rw [PySem.W.find_K D.at_ en]
  cases r with
  | none => exact ⟨z, H3, I3.tok _, rz, q3⟩
  | some u => exact ⟨v, H3, I3.tok _, rv u rfl, q3⟩
end
end Kg

namespace Mw
open PySem L2
/-! ### a text's notation -/
def escC (c : Nat) : List Nat := if c = 39 then [39, 39] else if c = 123 then [39, 123, 39] else if c = 125 then [39, 125, 39] else if c = 35 then [39, 35, 39] else [c]
def escL (l : List Nat) : List Nat := l.flatMap escC
def mkS (l : List Nat) : Str := ⟨l.toArray⟩
theorem tl_mk (l : List Nat) : tl (mkS l) = l := rfl
theorem mk_tl (s : Str) : mkS (tl s) = s := rfl
theorem mk_app (a b : List Nat) : mkS a ++ mkS b = mkS (a ++ b) := by
  refine TL.ext_tl ?_
  rw [TL.tl_append]
  rfl
theorem mk_len (l : List Nat) : (mkS l).length = l.length := by
  show l.toArray.size = _
  exact List.size_toArray
theorem s_mk (s : Str) : s = mkS (tl s) := rfl
theorem app_mk (s t : Str) : s ++ t = mkS (tl s ++ tl t) := mk_app (tl s) (tl t)
theorem len_tl' (s : Str) : s.length = (tl s).length := by
  show s.cps.size = s.cps.toList.length
  simp
theorem escC_len (c : Nat) : (escC c).length ≤ 3 := by
  unfold escC
  split <;> try simp
  split <;> try simp
  split <;> try simp
  split <;> simp
theorem escL_len : ∀ l : List Nat, (escL l).length ≤ 3 * l.length
  | [] => Nat.le_refl _
  | c :: r => by
    have h1 := escC_len c
    have h2 := escL_len r
    show ((escC c ++ escL r).length) ≤ 3 * (r.length + 1)
    rw [List.length_append]
    omega
/-- what the row says of the escapes -/
structure EA (K : PySem.W.Frag) (mg : Str → Option Value) (w : World) (ed : Addr) (es : Array DictEntry) (n : Nat) : Prop where
  g : mg "ESCAPES" = some (.ref ed)
  d : KDict K w ed es n
  is : ∀ c : Nat, ∃ r : Option Value, PySem.W.nsIn K ed ⟨#[c]⟩ = some r ∧ (∀ u, r = some u → RelV (.str (mkS (escC c))) u) ∧ (r = none → escC c = [c])
section
variable {P : Program} {w : World} {K : PySem.W.Frag} {mg : Str → Option Value} {base : Heap}
abbrev sEsc : Stmt := top 19
theorem scEsc : FnScope ["string", "sign"] ["string"] (defScope sEsc) := ⟨rfl, rfl, rfl, by decide +kernel, rfl, by decide +kernel, by decide +kernel⟩
def spEsc : Sp := fun vs H Q _ => ∃ s : Str, vs = [.str s] ∧ s.length ≤ 10000 ∧ ∀ H', Same H H' → Q (.str (mkS (escL (tl s)))) H'
theorem ok_esc {f ed : Addr} {fd : FuncData} {es : Array DictEntry} {n : Nat} (F : Fun K "escaped" "escaped" sEsc f fd) (A1 : EA K mg w ed es n) : FnOk P w K mg base CX0 1 f fd ["string"] spEsc := by
  refine F.ok scEsc (fun vs H Q E h => ?_) (fun cdv A outer s H vs Q E hr h => ?_)
  · obtain ⟨s, rfl, _⟩ := h
    rfl
  obtain ⟨s, rfl, hs, q⟩ := h
  have nd := scEsc.nd
  refine ⟨_, pss_one (ps_ret (pe_join pe_str (pe_lc (own := [("sign", 1)]) (g := gName 1) (tt := tYes) (te := Kg.tKGet K ed (tC (.ref ed)) (tVar 1) (tVar 1)) rfl nd (pi_str (pv 0)) (blkOk_by (N := ["string", "sign"]) (sc := defScope sEsc) (by decide +kernel))
    (fun _ _ _ _ _ => pg_name (i := 1) nd rfl (.inl rfl)) (fun _ _ _ _ _ => pts_nil) (fun _ _ _ _ _ => by exact Kg.pe_kget (es := es) (n := n) (d := ed) (by exact A1.d) (pe_glob rfl A1.g (v := .ref ed) rfl) (pv 1) (pv 1) ⟨rfl, rfl, rfl, rfl⟩)))), ?_⟩
  refine ⟨⟨_, rfl⟩, _, rfl, s, rfl, fun D hD => ?_⟩
  have hsz : s.cps.size = (tl s).length := len_tl' s
  refine lc_it (walk_str (z := s)) (fun i H' => Same H H' ∧ H' D = some (.lst (((tl s).take i).map fun c => V.str (mkS (escC c))))) ⟨same_new hD _, upd_same⟩ (fun _ _ _ _ => trivial) ?_ ?_
  · rintro i x H1 H2 hi ⟨s1, h1⟩ ⟨rfl, c, hc, rfl⟩
    obtain ⟨r, e1, e2, e3⟩ := A1.is c
    have hc' : (tl s)[i]? = some c := by
      rw [← hc]
      simp [tl]
    refine ⟨rfl, rfl, _, rfl, _, rfl, ⟨#[c]⟩, r, .str (mkS (escC c)), rfl, e1, e2, ?_⟩
    have hz : (if r.isSome = true then V.str (mkS (escC c)) else V.str ⟨#[c]⟩) = V.str (mkS (escC c)) := by
      cases r with
      | some u => rfl
      | none => rw [e3 rfl]; rfl
    rw [hz]
    refine ⟨_, h1, sz_line (by rw [List.length_map, List.length_take]; have h9 : (tl s).length ≤ 10000 := (len_tl' s) ▸ hs; omega), same_mut s1 hD _, ?_⟩
    rw [upd_same, List.take_succ, hc']
    simp
  · rintro H1 ⟨s1, h1⟩
    rw [hsz, List.take_length] at h1
    have e : ((tl s).map fun c => V.str (mkS (escC c))) = ((tl s).map fun c => mkS (escC c)).map V.str := by rw [List.map_map]; rfl
    rw [e] at h1
    refine ⟨_, D, _, rfl, rfl, .inl (SqL.of h1), ?_, ?_⟩
    · have e0 : ("" : Str).length = 0 := rfl
      rw [e0, Nat.mul_zero, Nat.add_zero, List.map_map]
      have h9 : (tl s).length ≤ 10000 := (len_tl' s) ▸ hs
      have e1 : ((tl s).map ((fun x => x.length) ∘ fun c => mkS (escC c))).sum = (escL (tl s)).length := by
        unfold escL
        rw [List.length_flatMap]
        congr 1
      rw [e1]
      have := escL_len (tl s)
      omega
    · rw [join_cat]
      have e1 : catS ((tl s).map fun c => mkS (escC c)) = mkS (escL (tl s)) := by
        unfold catS escL mkS
        rw [List.map_map, List.flatMap]
        rfl
      rw [e1]
      exact q H1 s1
end
end Mw

namespace Mw
open PySem L2
/-! ### a message's notation -/
def keyL : V → List Nat
  | .str s => tl s
  | .int i => 61 :: tl (toString i : Str)
  | _ => []
def hdL : List V → List Nat
  | [.str x, .str n] => tl "{" ++ tl n ++ tl ", " ++ tl x ++ tl ", "
  | [.str x, .str n, .int off] => tl "{" ++ tl n ++ tl ", " ++ tl x ++ tl ", " ++ (if off = 0 then [] else tl "offset:" ++ tl (toString off : Str) ++ tl " ")
  | _ => []
def T.wr : T → List Nat
  | .nil => []
  | .text s r => escL (tl s) ++ r.wr
  | .shw n r => tl "{" ++ tl n ++ tl "}" ++ r.wr
  | .num r => tl "#" ++ r.wr
  | .cho hd cs o r => hdL hd ++ cs.wr ++ tl "other {" ++ o.wr ++ tl "}}" ++ r.wr
  | .cas k m r => keyL k ++ tl " {" ++ m.wr ++ tl "} " ++ r.wr
/-- small leaves, all the way down -/
def KeyS (k : V) : Prop := (∃ s : Str, k = .str s ∧ s.length ≤ 20) ∨ ∃ i : Int, k = .int i ∧ 0 ≤ i ∧ i ≤ 999
def HdS (hd : List V) : Prop := (∃ n : Str, hd = [.str "select", .str n] ∧ n.length ≤ 20) ∨ ∃ (n : Str) (off : Int), hd = [.str "plural", .str n, .int off] ∧ n.length ≤ 20 ∧ 0 ≤ off ∧ off ≤ 9
def Sm : T → Prop
  | .nil => True
  | .text s r => s.length ≤ 10000 ∧ Sm r
  | .shw n r => n.length ≤ 20 ∧ Sm r
  | .num r => Sm r
  | .cho hd cs o r => HdS hd ∧ Sm cs ∧ Sm o ∧ Sm r
  | .cas k m r => KeyS k ∧ Sm m ∧ Sm r
/-- what waits to be written -/
inductive Pt where
  | s (x : Str)
  | n (u : T)
  | m (t : T)
def Pt.wr : Pt → List Nat
  | .s x => tl x
  | .n u => u.wr
  | .m t => t.wr
def Pt.wt : Pt → Nat
  | .s _ => 1
  | .n u => 6 * u.sz
  | .m t => 6 * t.sz + 1
def Pt.at (H : Hp) : Pt → V → Prop
  | .s x, v => v = .str x ∧ x.length ≤ 100000
  | .n u, v => Nodes H u [v] ∧ Wf u false ∧ Sm u
  | .m t, v => ∃ a, v = .ref a ∧ At H a t ∧ Wf t false ∧ Sm t
def Pts (H : Hp) : List Pt → List V → Prop
  | [], vs => vs = []
  | p :: ps, vs => ∃ v ws, vs = v :: ws ∧ p.at H v ∧ Pts H ps ws
theorem Pt.same {H H' : Hp} (s : Same H H') : ∀ {p : Pt} {v : V}, p.at H v → p.at H' v
  | .s _, _, h => h
  | .n _, _, h => ⟨Nodes.same s h.1, h.2⟩
  | .m _, _, h => by
    obtain ⟨a, e, h1, h2⟩ := h
    exact ⟨a, e, h1.same s, h2⟩
theorem Pts.same {H H' : Hp} (s : Same H H') : ∀ {ps : List Pt} {vs : List V}, Pts H ps vs → Pts H' ps vs
  | [], _, h => h
  | p :: ps, _, h => by
    obtain ⟨v, ws, rfl, h1, h2⟩ := h
    exact ⟨v, ws, rfl, Pt.same s h1, Pts.same s h2⟩
theorem Pts.app {H : Hp} {qs : List Pt} {us : List V} (hu : Pts H qs us) : ∀ {ps : List Pt} {vs : List V}, Pts H ps vs → Pts H (ps ++ qs) (vs ++ us)
  | [], _, h => by
    rw [show _ = [] from h]
    exact hu
  | p :: ps, _, h => by
    obtain ⟨v, ws, rfl, h1, h2⟩ := h
    exact ⟨v, ws ++ us, rfl, h1, Pts.app hu h2⟩
theorem Pts.length {H : Hp} : ∀ {ps : List Pt} {vs : List V}, Pts H ps vs → vs.length = ps.length
  | [], _, h => by
    rw [show _ = [] from h]
    rfl
  | p :: ps, _, h => by
    obtain ⟨v, ws, rfl, h1, h2⟩ := h
    exact congrArg (· + 1) h2.length
def Pw (ps : List Pt) : List Nat := ps.flatMap Pt.wr
def Pm (ps : List Pt) : Nat := (ps.map Pt.wt).sum
theorem Pw_app (a b : List Pt) : Pw (a ++ b) = Pw a ++ Pw b := by simp [Pw]
theorem Pm_app (a b : List Pt) : Pm (a ++ b) = Pm a + Pm b := by simp [Pm]
/-- the parts of a choice -/
def offP : List V → List Pt
  | [_, _, .int off] => if off = 0 then [] else [.s (mkS (tl "offset:" ++ tl (toString off : Str) ++ tl " "))]
  | _ => []
def h1P : List V → List Nat
  | .str x :: .str n :: _ => tl "{" ++ tl n ++ tl ", " ++ tl x ++ tl ", "
  | _ => []
def casP : T → List Pt
  | .cas k m r => [.s (mkS (keyL k ++ tl " {")), .m m, .s "} "] ++ casP r
  | _ => []
def chP (hd : List V) (cs o : T) : List Pt := [.s (mkS (h1P hd))] ++ offP hd ++ casP cs ++ [.s "other {", .m o, .s "}}"]
theorem casP_wr : ∀ {cs : T}, Wf cs true → Pw (casP cs) = cs.wr
  | .nil, _ => rfl
  | .text s r, h => by cases h.1
  | .shw s r, h => by cases h.1
  | .num r, h => by cases h.1
  | .cho hd cs o r, h => by cases h.1
  | .cas k m r, h => by
    rw [casP, Pw_app, casP_wr h.2.2.2]
    simp [Pw, Pt.wr, T.wr, tl_mk]
theorem casP_wt : ∀ {cs : T}, Wf cs true → Pm (casP cs) ≤ 6 * cs.sz
  | .nil, _ => Nat.zero_le _
  | .text s r, h => by cases h.1
  | .shw s r, h => by cases h.1
  | .num r, h => by cases h.1
  | .cho hd cs o r, h => by cases h.1
  | .cas k m r, h => by
    have ih := casP_wt h.2.2.2
    rw [casP, Pm_app]
    simp only [Pm, List.map_cons, List.map_nil, List.sum_cons, List.sum_nil, Pt.wt, T.sz] at ih ⊢
    omega
theorem chP_wr {hd : List V} {cs o : T} (hh : HdW hd) (hc : Wf cs true) : Pw (chP hd cs o) = (T.cho hd cs o .nil).wr := by
  unfold chP
  rw [Pw_app, Pw_app, Pw_app, casP_wr hc]
  rcases hh with ⟨n, rfl⟩ | ⟨n, off, rfl⟩
  · simp [Pw, Pt.wr, T.wr, hdL, h1P, offP, tl_mk]
  · by_cases e : off = 0
    · simp [Pw, Pt.wr, T.wr, hdL, h1P, offP, tl_mk, e]
    · simp [Pw, Pt.wr, T.wr, hdL, h1P, offP, tl_mk, e]
theorem chP_wt {hd : List V} {cs o : T} (hc : Wf cs true) : Pm (chP hd cs o) < 6 * (T.cho hd cs o .nil).sz := by
  have h1 := casP_wt hc
  have h2 : Pm (offP hd) ≤ 1 := by
    unfold offP
    split
    · split <;> simp [Pm, Pt.wt]
    · simp [Pm]
  unfold chP
  rw [Pm_app, Pm_app, Pm_app]
  simp only [Pm, List.map_cons, List.map_nil, List.sum_cons, List.sum_nil, Pt.wt, T.sz] at h1 h2 ⊢
  omega
end Mw

namespace Mw
open PySem L2
theorem str_is (l : List Nat) (s : Str) (h : tl s = l) : s = mkS l := TL.ext_tl h
theorem show_len {i : Int} (h0 : 0 ≤ i) (h1 : i ≤ 999) : (toString i : Str).length ≤ 4 ∧ i.natAbs.log2 < 1920 := by
  have a : ∀ n : Fin 1000, (toString ((n.val : Nat) : Int) : Str).length ≤ 4 := by decide +kernel
  have e : i = ((i.toNat : Nat) : Int) := by omega
  have h := a ⟨i.toNat, by omega⟩
  refine ⟨by rw [e]; exact h, ?_⟩
  have h2 : i.natAbs < 2 ^ 10 := by
    have : i.natAbs ≤ 999 := by omega
    omega
  by_cases z : i.natAbs = 0
  · rw [z]
    decide
  · exact Nat.lt_of_lt_of_le ((Nat.log2_lt z).mpr h2) (by decide)
section
variable {P : Program} {w : World} {K : PySem.W.Frag} {mg : Str → Option Value} {base : Heap}
abbrev sKey : Stmt := top 20
theorem scKey : FnScope ["key"] ["key"] (defScope sKey) := ⟨rfl, rfl, rfl, by decide +kernel, rfl, by decide +kernel, by decide +kernel⟩
def spKey : Sp := fun vs H Q _ => ∃ k : V, vs = [k] ∧ KeyS k ∧ ∀ H', Same H H' → Q (.str (mkS (keyL k))) H'
theorem ok_key {f : Addr} {fd : FuncData} (F : Fun K "key_notation" "key_notation" sKey f fd) (mi : mg "isinstance" = none) (ms : mg "str" = none) : FnOk P w K mg base CX0 1 f fd ["key"] spKey := by
  refine F.ok scKey (fun vs H Q E h => ?_) (fun cdv A outer s H vs Q E hr h => ?_)
  · obtain ⟨k, rfl, _⟩ := h
    rfl
  obtain ⟨k, rfl, hk, q⟩ := h
  have nd := scKey.nd
  refine ⟨_, pss_one (ps_ret (pe_ifExp (pt_val (pe_callB call_isi (by rfl) mi (by decide +kernel) (pa_cons (pv 0) (pa_cons (pe_bltn (v := .ty "str") (by rfl) ms (by decide +kernel) rfl) pa_nil)))) (pv 0) (pe_joined (.cons pe_str (.cons (pe_fmt (pv 0)) .nil))))), ?_⟩
  rcases hk with ⟨s, rfl, hs⟩ | ⟨i, rfl, h0, h1⟩
  · refine ⟨_, rfl, .str s, .ty "str", .type "str", .type "str", true, rfl, .ty "str", .base (.str s), rfl, true, rfl, ?_⟩
    refine iteT ⟨_, rfl, ?_⟩
    exact q H (Same.refl _)
  · refine ⟨_, rfl, .int i, .ty "str", .type "int", .type "str", false, rfl, .ty "str", .base (.int i), kit_ty (by decide +kernel), false, rfl, ?_⟩
    obtain ⟨hl, hg⟩ := show_len h0 h1
    have e1 : (Str.empty ++ ("=" : Str)) = mkS [61] := rfl
    refine iteF ⟨_, rfl, by decide, _, rfl, .inr ⟨i, rfl, hg, _, rfl, ?_, ?_⟩⟩
    · rw [e1, app_mk, mk_len, List.length_append, ← len_tl', ← len_tl']
      exact Nat.le_trans (Nat.add_le_add_left hl _) (by decide)
    · show Q (.str (Str.empty ++ ("=" : Str) ++ toString i)) H
      rw [e1, app_mk]
      exact q H (Same.refl _)
end
end Mw

namespace Mw
open PySem L2
theorem sl (a b : Str) : (a ++ b).length = a.length + b.length := by
  rw [app_mk, mk_len, List.length_append, ← len_tl', ← len_tl']
theorem Pts.one {H : Hp} {x : Str} (h : x.length ≤ 100000) : Pts H [.s x] [.str x] := ⟨_, [], rfl, ⟨rfl, h⟩, rfl⟩
theorem casP_len : ∀ {cs : T}, Wf cs true → (casP cs).length ≤ 3 * cs.sz
  | .nil, _ => Nat.zero_le _
  | .text s r, h => by cases h.1
  | .shw s r, h => by cases h.1
  | .num r, h => by cases h.1
  | .cho hd cs o r, h => by cases h.1
  | .cas k m r, h => by
    have ih := casP_len h.2.2.2
    rw [casP, List.length_append]
    simp only [List.length_cons, List.length_nil, T.sz]
    omega
theorem casP_app (k : V) (m u : T) : ∀ {t : T}, Wf t true → casP (t.app (.cas k m u)) = casP t ++ casP (.cas k m u)
  | .nil, _ => rfl
  | .text s r, h => by cases h.1
  | .shw s r, h => by cases h.1
  | .num r, h => by cases h.1
  | .cho hd cs o r, h => by cases h.1
  | .cas k' m' r, h => by
    show casP (.cas k' m' (r.app _)) = _
    rw [casP, casP_app k m u h.2.2.2]
    simp [casP]
/-- the cases one by one -/
theorem cas_ix {H : Hp} : ∀ {cs : T} {cvs : List V}, Nodes H cs cvs → Wf cs true → Sm cs → ∃ ks : List (V × T), ks.length = cvs.length ∧ casP cs = ks.flatMap (fun q => [.s (mkS (keyL q.1 ++ tl " {")), .m q.2, .s "} "]) ∧
    ∀ (i : Nat) (v : V), cvs[i]? = some v → ∃ (q : V × T) (a b : Addr), ks[i]? = some q ∧ v = .ref a ∧ H a = some (.tup [q.1, .ref b]) ∧ At H b q.2 ∧ Wf q.2 false ∧ Sm q.2 ∧ KeyS q.1
  | .nil, _, h, _, _ => ⟨[], by rw [show _ = [] from h]; rfl, rfl, fun i v e => by rw [show _ = [] from h] at e; simp at e⟩
  | .text s r, _, _, w, _ => by cases w.1
  | .shw s r, _, _, w, _ => by cases w.1
  | .num r, _, _, w, _ => by cases w.1
  | .cho hd cs o r, _, _, w, _ => by cases w.1
  | .cas k m r, _, h, w, s => by
    obtain ⟨p, ws, ma, mvs, rfl, hp, hm, hms, hr⟩ := h
    obtain ⟨ks, e1, e2, e3⟩ := cas_ix hr w.2.2.2 s.2.2
    refine ⟨(k, m) :: ks, congrArg (· + 1) e1, ?_, fun i v e => ?_⟩
    · rw [casP, e2]
      rfl
    · cases i with
      | zero =>
        have : V.ref p = v := by simpa using e
        subst this
        exact ⟨(k, m), p, ma, rfl, rfl, hp, ⟨mvs, hm, hms⟩, w.2.2.1, s.2.1, s.1⟩
      | succ i =>
        obtain ⟨q, a, b, h1, h2⟩ := e3 i v (by simpa using e)
        exact ⟨q, a, b, by simpa using h1, h2⟩
section
variable {P : Program} {w : World} {K : PySem.W.Frag} {mg : Str → Option Value} {base : Heap}
abbrev sCp : Stmt := top 21
theorem scCp : FnScope ["node", "parts", "key", "message"] ["node"] (defScope sCp) := ⟨rfl, rfl, rfl, by decide +kernel, rfl, by decide +kernel, by decide +kernel⟩
def spCp : Sp := fun vs H Q _ => ∃ (H0 : Hp) (p ca oa : Addr) (hd cvs : List V) (cs o : T), vs = [.ref p] ∧ Same H0 H ∧ H0 p = some (.tup (hd ++ [.ref ca, .ref oa])) ∧ HdS hd ∧ H0 ca = some (.lst cvs) ∧ Nodes H0 cs cvs ∧ Wf cs true ∧ Sm cs ∧ cs.sz < 100000 ∧ At H0 oa o ∧ Wf o false ∧ Sm o ∧
  ∀ l H' ws, H l = none → Same H H' → H' l = some (.lst ws) → Pts H0 (chP hd cs o) ws → Q (.ref l) H'
/-- the first part of a choice's notation -/
theorem ok_cp {f fC fK fO : Addr} {fd fdC fdK fdO : FuncData} {tk : Tok} (F : Fun K "choice_parts" "choice_parts" sCp f fd) (mo : mg "OFFSET_MARK" = some (.str "offset:" tk))
    (GC : FnOk P w K mg base CX0 1 fC fdC ["node"] spCases) (bC : Binds K fdC ["node"] []) (kC : PySem.W.keepIn K (.ref fC) = true) (mC : mg "cases_of" = some (.ref fC))
    (GK : FnOk P w K mg base CX0 1 fK fdK ["key"] spKey) (bK : Binds K fdK ["key"] []) (kK : PySem.W.keepIn K (.ref fK) = true) (mK : mg "key_notation" = some (.ref fK))
    (GO : FnOk P w K mg base CX0 1 fO fdO ["node"] spOther) (bO : Binds K fdO ["node"] []) (kO : PySem.W.keepIn K (.ref fO) = true) (mO : mg "other_of" = some (.ref fO)) : FnOk P w K mg base CX0 2 f fd ["node"] spCp := by
  refine F.ok scCp (fun vs H Q E h => ?_) (fun cdv A outer s H vs Q E hr h => ?_)
  · obtain ⟨H0, p, ca, oa, hd, cvs, cs, o, rfl, _⟩ := h
    rfl
  obtain ⟨H0, p, ca, oa, hd, cvs, cs, o, rfl, h0, hp0, hh, hc0, hcs, wcs, scs, zcs, ho, wo, so, q⟩ := h
  have hp := h0 _ _ hp0
  have hc := h0 _ _ hc0
  have nd := scCp.nd
  refine ⟨_, pss_cons (ps_set (i := 1) nd rfl (.inl rfl) (pe_lst (pa_cons (pe_op op_add_str (pe_op op_add_str (pe_op op_add_str (pe_op op_add_str pe_str (pe_ix ix_tup (pv 0) pe_int (fun _ _ => rfl))) pe_str) (pe_ix ix_tup (pv 0) pe_int (fun _ _ => rfl))) pe_str) pa_nil)))
    (Evl.pss_cut (ps_if (PW.pt (pw_and (pt_cmpR op_eq (pe_ix ix_tup (pv 0) pe_int (fun _ _ => rfl)) pe_str (nomark _)) (pw_and1 (pt_cmpR op_ne (pe_ix ix_tup (pv 0) pe_int (fun _ _ => rfl)) pe_int (nomark _)))))
      (pss_one (ps_expr (pe_bm PySem.F.plainAttrs_list PySem.F.slot_list_append PySem.F.type_list_append mt_append (pv 1) (pa_cons (pe_joined (.cons (pe_fmt (pe_glob rfl mo (v := .str "offset:") ⟨_, rfl⟩)) (.cons (pe_fmt (pe_ix ix_tup (pv 0) pe_int (fun _ _ => rfl))) (.cons pe_str .nil)))) pa_nil)))) pss_nil)
    (pss_cons (ps_for PassesOwn.never rfl (pi_list (pe_call GC hr rfl mC kC bC .nil pass0 (pa_cons (pv 0) pa_nil))) (pg_tup rfl (pgs_cons (pg_name (i := 2) nd rfl (.inl rfl)) (pgs_cons (pg_name (i := 3) nd rfl (.inl rfl)) pgs_nil)))
      (pss_one (ps_expr (pe_bm PySem.F.plainAttrs_list PySem.F.slot_list_extend PySem.F.type_list_extend mt_extend (pv 1) (pa_cons (pe_lst (pa_cons (pe_op op_add_str (pe_call GK hr rfl mK kK bK .nil pass0 (pa_cons (pv 2) pa_nil)) pe_str) (pa_cons (pv 3) (pa_cons pe_str pa_nil)))) pa_nil)))))
    (pss_one (ps_ret (pe_op op_cat (pv 1) (pe_lst (pa_cons pe_str (pa_cons (pe_call GO hr rfl mO kO bO .nil pass0 (pa_cons (pv 0) pa_nil)) (pa_cons pe_str pa_nil))))))))), ?_⟩
  obtain ⟨x, n, rest, rfl, hx, hn⟩ : ∃ (x n : Str) (rest : List V), hd = .str x :: .str n :: rest ∧ x.length ≤ 6 ∧ n.length ≤ 20 := by
    rcases hh with ⟨n, rfl, hn⟩ | ⟨n, off, rfl, hn, _⟩
    · exact ⟨"select", n, [], rfl, by decide, hn⟩
    · exact ⟨"plural", n, _, rfl, by decide, hn⟩
  have l1 : ("{" : Str).length = 1 := rfl
  have l2 : (", " : Str).length = 2 := rfl
  refine ⟨_, rfl, p, _, 1, .str n, rfl, rfl, .inl (.inl hp), atI_nat (j := 1) rfl, _, _, rfl, rfl, le_line (by omega), _, _, rfl, rfl, le_line (by rw [sl]; omega), _, rfl, p, _, 0, .str x, rfl, rfl, .inl (.inl hp), atI_nat (j := 0) rfl, _, _, rfl, rfl, le_line (by rw [sl, sl]; omega), _, _, rfl, rfl, le_line (by rw [sl, sl, sl]; omega), by show 1 ≤ sizeLine; decide, fun fl hfl => ?_⟩
  have s1 : Same H (upd H fl (.lst [.str (("{" : Str) ++ n ++ ", " ++ x ++ ", ")])) := same_new hfl _
  have eS : ("{" : Str) ++ n ++ ", " ++ x ++ ", " = mkS (h1P (.str x :: .str n :: rest)) := by
    refine TL.ext_tl ?_
    rw [TL.tl_append, TL.tl_append, TL.tl_append, TL.tl_append]
    rfl
  have hSl : (("{" : Str) ++ n ++ ", " ++ x ++ ", ").length ≤ 100000 := by rw [sl, sl, sl, sl]; omega
  rw [eS] at s1 hSl
  refine ⟨fun σ' H2 => ∃ ws : List V, σ' = [some (.ref p), some (.ref fl), none, none] ∧ Same H H2 ∧ H2 fl = some (.lst ws) ∧ Pts H0 ([.s (mkS (h1P (.str x :: .str n :: rest)))] ++ offP (.str x :: .str n :: rest)) ws, ?_, ?_⟩
  · have hp1 := s1 _ _ hp
    have base : ∃ ws : List V, [some (V.ref p), some (V.ref fl), none, none] = [some (V.ref p), some (V.ref fl), (none : Option V), none] ∧ Same H (upd H fl (.lst [.str (mkS (h1P (.str x :: .str n :: rest)))])) ∧ upd H fl (.lst [.str (mkS (h1P (.str x :: .str n :: rest)))]) fl = some (.lst ws) ∧ Pts H0 [.s (mkS (h1P (.str x :: .str n :: rest)))] ws :=
      ⟨_, rfl, s1, upd_same, Pts.one hSl⟩
    rw [eS]
    refine ⟨_, rfl, p, _, 0, .str x, rfl, rfl, .inl (.inl hp1), atI_nat (j := 0) rfl, rfl, _, rfl, ?_⟩
    rcases hh with ⟨n', e, _⟩ | ⟨n', off, e, _, o0, o9⟩
    · cases e
      refine iteF (iteF ?_)
      exact base
    · cases e
      refine iteT ⟨_, rfl, p, _, 2, .int off, rfl, rfl, .inl (.inl hp1), atI_nat (j := 2) rfl, rfl, _, rfl, ?_⟩
      show (if (!decide (V.int off = V.int 0)) = true then _ else _)
      by_cases e0 : off = 0
      · subst e0
        refine iteF ?_
        exact base
      · rw [show (!decide (V.int off = V.int 0)) = true by simp [e0]]
        obtain ⟨hl, hg⟩ := show_len o0 (show off ≤ 999 by omega)
        have e1 : Str.empty ++ ("offset:" : Str) = "offset:" := TL.ext_tl (by rw [TL.tl_append]; rfl)
        have l7 : ("offset:" : Str).length = 7 := rfl
        have l8 : (" " : Str).length = 1 := rfl
        have eO : Str.empty ++ ("offset:" : Str) ++ toString off ++ " " = mkS (tl "offset:" ++ tl (toString off : Str) ++ tl " ") := by
          rw [e1]
          refine TL.ext_tl ?_
          rw [TL.tl_append, TL.tl_append]
          rfl
        have hOl : (Str.empty ++ ("offset:" : Str) ++ toString off ++ " ").length ≤ 100000 := by rw [e1, sl, sl]; omega
        refine iteT ⟨_, rfl, .inl ⟨rfl, _, SqL.of upd_same⟩, .inl ⟨_, rfl, by decide, _, rfl, by decide, _, rfl, p, _, 2, .int off, rfl, rfl, .inl (.inl hp1), atI_nat (j := 2) rfl, .inr ⟨off, rfl, hg, _, rfl, le_line (by rw [e1, sl]; omega), _, rfl, le_line (Nat.lt_of_le_of_lt hOl (by decide)), ?_⟩⟩⟩
        refine ⟨fl, _, _, rfl, rfl, upd_same, by show 1 < sizeLine; decide, ?_⟩
        refine ⟨_, rfl, same_mut s1 hfl _, upd_same, ?_⟩
        rw [show offP [V.str "plural", .str n, .int off] = [.s (mkS (tl "offset:" ++ tl (toString off : Str) ++ tl " "))] from if_neg e0, ← eO]
        exact Pts.app (Pts.one hOl) (Pts.one hSl)
  rintro σ' H2 ⟨ws, rfl, s2, hf2, hP2⟩
  obtain ⟨ks, k1, k2, k3⟩ := cas_ix hcs wcs scs
  let B : List Pt := [.s (mkS (h1P (.str x :: .str n :: rest)))] ++ offP (.str x :: .str n :: rest)
  let g : V × T → List Pt := fun q => [.s (mkS (keyL q.1 ++ tl " {")), .m q.2, .s "} "]
  have hclen : cvs.length ≤ cs.sz := by rw [hcs.length]; exact len_sz cs
  refine ⟨_, rfl, p, ca, oa, .str x :: .str n :: rest, cvs, rfl, s2 _ _ hp, s2 _ _ hc, fun lc hlc => ⟨lc, rfl, ⟨_, SqL.of upd_same⟩, ?_⟩⟩
  have hfc : fl ≠ lc := ne_of_none hf2 hlc
  have hlcH : H lc = none := s2.free hlc
  refine for_list (xs := cvs) (fun i σ' H' => ∃ (ws : List V) (o2 o3 : Option V), σ' = [some (.ref p), some (.ref fl), o2, o3] ∧ Same H H' ∧ H' lc = some (.lst cvs) ∧ H' fl = some (.lst ws) ∧ Pts H0 (B ++ (ks.take i).flatMap g) ws)
    ⟨ws, none, none, rfl, s2.trans (same_new hlc _), upd_same, by rw [upd_ne hfc]; exact hf2, by rw [List.take_zero, List.flatMap_nil, List.append_nil]; exact hP2⟩ (fun i σ' H' _ ⟨_, _, _, _, _, h, _⟩ => SqL.of h) ?_ ?_
  · rintro i v σ' H' hv ⟨ws, o2, o3, rfl, s', hlc', hf', hP'⟩
    obtain ⟨qq, a', b', e1, rfl, ha', hb', wq, sq, kq⟩ := k3 i v hv
    refine ⟨a', _, rfl, .inl (.inl (s' _ _ (h0 _ _ ha'))), rfl, qq.1, _, rfl, .ref b', [], rfl, rfl, ?_⟩
    refine ⟨_, rfl, .inl ⟨rfl, _, SqL.of hf'⟩, ?_⟩
    refine ⟨_, rfl, qq.1, rfl, kq, fun H3 s3 => ?_⟩
    have kl : (keyL qq.1).length ≤ 20 := by
      rcases kq with ⟨s, e, hs⟩ | ⟨i, e, i0, i9⟩
      · rw [e]
        show (tl s).length ≤ 20
        rw [← len_tl']
        exact hs
      · rw [e]
        show (tl (toString i : Str)).length + 1 ≤ 20
        rw [← len_tl']
        have := (show_len i0 i9).1
        omega
    have l3 : (" {" : Str).length = 2 := rfl
    refine ⟨_, _, rfl, rfl, le_line (by rw [mk_len]; omega), _, rfl, by show 3 ≤ sizeLine; decide, fun nl hnl => ?_⟩
    have s4 := s'.trans s3
    have hf3 := s3 _ _ hf'
    have hnf : nl ≠ fl := (ne_of_none hf3 hnl).symm
    have hnH : H nl = none := s4.free hnl
    have hil : i < cvs.length := (List.getElem?_eq_some_iff.mp hv).1
    have hwl : ws.length + 3 < 10000000 := by
      have z1 := hP'.length
      have z2 : ((ks.take i).flatMap g).length ≤ 3 * i := by
        have : ∀ l : List (V × T), (l.flatMap g).length = 3 * l.length := by
          intro l
          induction l with
          | nil => rfl
          | cons a r ih =>
            rw [List.flatMap_cons, List.length_append, ih]
            show 3 + 3 * r.length = 3 * (r.length + 1)
            omega
        rw [this, List.length_take]
        omega
      have z3 : B.length ≤ 2 := by
        simp only [B, List.length_append, List.length_singleton]
        unfold offP
        split
        · split <;> simp
        · simp
      rw [List.length_append] at z1
      omega
    refine ⟨fl, nl, ws, [.str (mkS (keyL qq.1) ++ " {"), .ref b', .str "} "], rfl, rfl, by rw [upd_ne hnf.symm]; exact hf3, upd_same, le_line hwl, ?_⟩
    have s5 : Same H3 (upd H3 nl (.lst [.str (mkS (keyL qq.1) ++ " {"), .ref b', .str "} "])) := same_new hnl _
    refine ⟨ws ++ [.str (mkS (keyL qq.1) ++ " {"), .ref b', .str "} "], _, _, rfl, same_mut (s4.trans s5) hfl _, ?_, upd_same, ?_⟩
    · rw [upd_ne hfc.symm]
      exact (s3.trans s5) _ _ hlc'
    · rw [List.take_succ, e1]
      show Pts _ (B ++ ((ks.take i ++ [qq]).flatMap g)) _
      rw [List.flatMap_append, ← List.append_assoc]
      have ek : mkS (keyL qq.1) ++ (" {" : Str) = mkS (keyL qq.1 ++ tl " {") := mk_app _ _
      rw [ek]
      refine Pts.app ?_ hP'
      rw [List.flatMap_cons, List.flatMap_nil, List.append_nil]
      have l20 : (mkS (keyL qq.1 ++ tl " {")).length ≤ 100000 := by
        rw [mk_len, List.length_append]
        exact Nat.le_trans (Nat.add_le_add_right kl _) (by decide)
      exact ⟨_, _, rfl, ⟨rfl, l20⟩, _, _, rfl, ⟨b', rfl, hb', wq, sq⟩, _, [], rfl, ⟨rfl, by decide⟩, rfl⟩
  · rintro σ' H' ⟨ws, o2, o3, rfl, s', hlc', hf', hP'⟩
    rw [← k1, List.take_length, ← k2] at hP'
    refine ⟨_, rfl, _, rfl, p, ca, oa, .str x :: .str n :: rest, rfl, s' _ _ hp, by show 3 ≤ sizeLine; decide, fun nl hnl => ?_⟩
    have hnf : nl ≠ fl := (ne_of_none hf' hnl).symm
    have hwl : ws.length + 3 < 10000000 := by
      have z1 := hP'.length
      have z2 := casP_len wcs
      have z3 : B.length ≤ 2 := by
        simp only [B, List.length_append, List.length_singleton]
        unfold offP
        split
        · split <;> simp
        · simp
      rw [List.length_append] at z1
      omega
    refine ⟨fl, nl, ws, [.str "other {", .ref oa, .str "}}"], rfl, rfl, by rw [upd_ne hnf.symm]; exact hf', upd_same, le_line hwl, fun l4 hl4 => ?_⟩
    have s6 : Same H (upd (upd H' nl (.lst [.str "other {", .ref oa, .str "}}"])) l4 (.lst (ws ++ [.str "other {", .ref oa, .str "}}"]))) := (s'.trans (same_new hnl _)).trans (same_new hl4 _)
    refine q l4 _ _ ((s'.trans (same_new hnl _)).free hl4) s6 upd_same ?_
    refine Pts.app ?_ hP'
    exact ⟨_, _, rfl, ⟨rfl, by decide⟩, _, _, rfl, ⟨oa, rfl, ho, wo, so⟩, _, [], rfl, ⟨rfl, by decide⟩, rfl⟩
end
end Mw

namespace Mw
open PySem L2
theorem hdL_len {hd : List V} (h : HdS hd) : (hdL hd).length ≤ 45 := by
  have a1 : (tl "{").length = 1 := rfl
  have a2 : (tl ", ").length = 2 := rfl
  have a3 : (tl "select").length = 6 := rfl
  have a4 : (tl "plural").length = 6 := rfl
  have a5 : (tl "offset:").length = 7 := rfl
  have a6 : (tl " ").length = 1 := rfl
  rcases h with ⟨n, rfl, hn⟩ | ⟨n, off, rfl, hn, h0, h9⟩
  · rw [len_tl'] at hn
    simp only [hdL, List.length_append]
    omega
  · rw [len_tl'] at hn
    have hs := (show_len h0 (show off ≤ 999 by omega)).1
    rw [len_tl'] at hs
    simp only [hdL, List.length_append]
    split
    · simp only [List.length_nil]
      omega
    · simp only [List.length_append]
      omega
theorem keyL_len {k : V} (h : KeyS k) : (keyL k).length ≤ 20 := by
  rcases h with ⟨s, e, hs⟩ | ⟨i, e, i0, i9⟩
  · rw [e]
    show (tl s).length ≤ 20
    rw [← len_tl']
    exact hs
  · rw [e]
    show (tl (toString i : Str)).length + 1 ≤ 20
    rw [← len_tl']
    have := (show_len i0 i9).1
    omega
theorem wr_len : ∀ {t : T}, Sm t → t.wr.length ≤ 60 * t.sz
  | .nil, _ => Nat.zero_le _
  | .text s r, h => by
    have ih := wr_len h.2
    have h1 := escL_len (tl s)
    have h2 := len_tl' s
    simp only [T.wr, T.sz, List.length_append]
    omega
  | .shw n r, h => by
    have ih := wr_len h.2
    have h1 := h.1
    rw [len_tl'] at h1
    have a1 : (tl "{").length = 1 := rfl
    have a2 : (tl "}").length = 1 := rfl
    simp only [T.wr, T.sz, List.length_append]
    omega
  | .num r, h => by
    have ih := wr_len (t := r) h
    have a1 : (tl "#").length = 1 := rfl
    simp only [T.wr, T.sz, List.length_append]
    omega
  | .cho hd cs o r, h => by
    have i1 := wr_len h.2.1
    have i2 := wr_len h.2.2.1
    have i3 := wr_len h.2.2.2
    have h1 := hdL_len h.1
    have a1 : (tl "other {").length = 7 := rfl
    have a2 : (tl "}}").length = 2 := rfl
    simp only [T.wr, T.sz, List.length_append]
    omega
  | .cas k m r, h => by
    have i1 := wr_len h.2.1
    have i2 := wr_len h.2.2
    have h1 := keyL_len h.1
    have a1 : (tl " {").length = 2 := rfl
    have a2 : (tl "} ").length = 2 := rfl
    simp only [T.wr, T.sz, List.length_append]
    omega
section
variable {P : Program} {w : World} {K : PySem.W.Frag} {mg : Str → Option Value} {base : Heap}
abbrev sNp : Stmt := top 22
theorem scNp : FnScope ["node"] ["node"] (defScope sNp) := ⟨rfl, rfl, rfl, by decide +kernel, rfl, by decide +kernel, by decide +kernel⟩
def spNp : Sp := fun vs H Q _ => ∃ (H0 : Hp) (v : V) (u : T), vs = [v] ∧ Same H0 H ∧ Nodes H0 u [v] ∧ Wf u false ∧ Sm u ∧ u.sz < 100000 ∧
  ∀ l H' ws ps, H l = none → Same H H' → H' l = some (.lst ws) → Pts H0 ps ws → Pw ps = u.wr → Pm ps < 6 * u.sz → Q (.ref l) H'
theorem ok_np {f fE fC : Addr} {fd fdE fdC : FuncData} (F : Fun K "node_parts" "node_parts" sNp f fd)
    (GE : FnOk P w K mg base CX0 1 fE fdE ["string"] spEsc) (bE : Binds K fdE ["string"] []) (kE : PySem.W.keepIn K (.ref fE) = true) (mE : mg "escaped" = some (.ref fE))
    (GC : FnOk P w K mg base CX0 2 fC fdC ["node"] spCp) (bC : Binds K fdC ["node"] []) (kC : PySem.W.keepIn K (.ref fC) = true) (mC : mg "choice_parts" = some (.ref fC)) : FnOk P w K mg base CX0 3 f fd ["node"] spNp := by
  refine F.ok scNp (fun vs H Q E h => ?_) (fun cdv A outer s H vs Q E hr h => ?_)
  · obtain ⟨H0, v, u, rfl, _⟩ := h
    rfl
  obtain ⟨H0, v, u, rfl, h0, hn, hw, hs, hz, q⟩ := h
  have nd := scNp.nd
  refine ⟨_, pss_cons (ps_if (pt_cmpR op_eq (pe_ix ix_tup (pv 0) pe_int (fun _ _ => rfl)) pe_str (nomark _)) (pss_one (ps_ret (pe_lst (pa_cons (pe_call GE (hr.mono (by decide)) rfl mE kE bE .nil pass0 (pa_cons (pe_ix ix_tup (pv 0) pe_int (fun _ _ => rfl)) pa_nil)) pa_nil)))) pss_nil)
    (pss_cons (ps_if (pt_cmpR op_eq (pe_ix ix_tup (pv 0) pe_int (fun _ _ => rfl)) pe_str (nomark _)) (pss_one (ps_ret (pe_lst (pa_cons (pe_op op_add_str (pe_op op_add_str pe_str (pe_ix ix_tup (pv 0) pe_int (fun _ _ => rfl))) pe_str) pa_nil)))) pss_nil)
    (pss_cons (ps_if (pt_cmpR op_eq (pe_ix ix_tup (pv 0) pe_int (fun _ _ => rfl)) pe_str (nomark _)) (pss_one (ps_ret (pe_lst (pa_cons pe_str pa_nil)))) pss_nil)
    (pss_one (ps_ret (pe_call GC hr rfl mC kC bC .nil pass0 (pa_cons (pv 0) pa_nil)))))), ?_⟩
  cases u with
  | nil => cases (show [v] = [] from hn)
  | cas k m r => cases hw.1
  | text st r =>
    obtain ⟨p, ws, e, hp0, hr'⟩ := hn
    cases e
    have hp := h0 _ _ hp0
    have er : r = .nil := by
      have := hr'.length
      cases r <;> first | rfl | (simp [T.len] at this)
    subst er
    refine ⟨_, rfl, p, _, 0, .str "text", rfl, rfl, .inl (.inl hp), atI_nat (j := 0) rfl, rfl, _, rfl, iteT ?_⟩
    refine ⟨_, rfl, p, _, 1, .str st, rfl, rfl, .inl (.inl hp), atI_nat (j := 1) rfl, st, rfl, hs.1, fun H1 s1 => ⟨by show 1 ≤ sizeLine; decide, fun l hl => ?_⟩⟩
    have hle : (mkS (escL (tl st))).length ≤ 100000 := by
      rw [mk_len]
      have h1 := escL_len (tl st)
      have h2 := hs.1
      rw [len_tl'] at h2
      omega
    refine q l _ _ [.s (mkS (escL (tl st)))] (s1.free hl) (s1.trans (same_new hl _)) upd_same (Pts.one hle) ?_ ?_
    · simp [Pw, Pt.wr, T.wr, tl_mk]
    · simp [Pm, Pt.wt, T.sz]
      omega
  | shw n r =>
    obtain ⟨p, ws, e, hp0, hr'⟩ := hn
    cases e
    have hp := h0 _ _ hp0
    have er : r = .nil := by
      have := hr'.length
      cases r <;> first | rfl | (simp [T.len] at this)
    subst er
    have l1 : ("{" : Str).length = 1 := rfl
    have l2 : ("}" : Str).length = 1 := rfl
    have hnl := hs.1
    refine ⟨_, rfl, p, _, 0, .str "show", rfl, rfl, .inl (.inl hp), atI_nat (j := 0) rfl, rfl, _, rfl, iteF ?_⟩
    refine ⟨_, rfl, p, _, 0, .str "show", rfl, rfl, .inl (.inl hp), atI_nat (j := 0) rfl, rfl, _, rfl, iteT ?_⟩
    refine ⟨_, rfl, p, _, 1, .str n, rfl, rfl, .inl (.inl hp), atI_nat (j := 1) rfl, _, _, rfl, rfl, le_line (by omega), _, _, rfl, rfl, le_line (by rw [sl]; omega), by show 1 ≤ sizeLine; decide, fun l hl => ?_⟩
    refine q l _ _ [.s (("{" : Str) ++ n ++ "}")] hl (same_new hl _) upd_same (Pts.one (by rw [sl, sl]; omega)) ?_ ?_
    · simp [Pw, Pt.wr, T.wr, TL.tl_append]
    · simp [Pm, Pt.wt, T.sz]
  | num r =>
    obtain ⟨p, ws, e, hp0, hr'⟩ := hn
    cases e
    have hp := h0 _ _ hp0
    have er : r = .nil := by
      have := hr'.length
      cases r <;> first | rfl | (simp [T.len] at this)
    subst er
    refine ⟨_, rfl, p, _, 0, .str "number", rfl, rfl, .inl (.inl hp), atI_nat (j := 0) rfl, rfl, _, rfl, iteF ?_⟩
    refine ⟨_, rfl, p, _, 0, .str "number", rfl, rfl, .inl (.inl hp), atI_nat (j := 0) rfl, rfl, _, rfl, iteF ?_⟩
    refine ⟨_, rfl, p, _, 0, .str "number", rfl, rfl, .inl (.inl hp), atI_nat (j := 0) rfl, rfl, _, rfl, iteT ?_⟩
    refine ⟨by show 1 ≤ sizeLine; decide, fun l hl => ?_⟩
    refine q l _ _ [.s "#"] hl (same_new hl _) upd_same (Pts.one (by decide)) ?_ ?_
    · simp [Pw, Pt.wr, T.wr]
    · simp [Pm, Pt.wt, T.sz]
  | cho hd cs o r =>
    obtain ⟨p, ws, ca, cvs, oa, ovs, e, hp0, hc, hcs, ho, hos, hr'⟩ := hn
    cases e
    have hp := h0 _ _ hp0
    have er : r = .nil := by
      have := hr'.length
      cases r <;> first | rfl | (simp [T.len] at this)
    subst er
    obtain ⟨hW, w2, w3, _⟩ := hw.2
    obtain ⟨hS, t2, t3, _⟩ := hs
    have last : spCp [.ref p] H Q (fun _ _ _ => False) := ⟨H0, p, ca, oa, hd, cvs, cs, o, rfl, h0, hp0, hS, hc, hcs, w2, t2, by simp only [T.sz] at hz; omega, ⟨ovs, ho, hos⟩, w3, t3, fun l H' ws hl s' hl' hP => q l H' ws _ hl s' hl' hP (chP_wr hW w2) (chP_wt w2)⟩
    rcases hW with ⟨n, rfl⟩ | ⟨n, off, rfl⟩
    · refine ⟨_, rfl, p, _, 0, .str "select", rfl, rfl, .inl (.inl hp), atI_nat (j := 0) rfl, rfl, _, rfl, iteF ?_⟩
      refine ⟨_, rfl, p, _, 0, .str "select", rfl, rfl, .inl (.inl hp), atI_nat (j := 0) rfl, rfl, _, rfl, iteF ?_⟩
      refine ⟨_, rfl, p, _, 0, .str "select", rfl, rfl, .inl (.inl hp), atI_nat (j := 0) rfl, rfl, _, rfl, iteF ?_⟩
      exact ⟨_, rfl, last⟩
    · refine ⟨_, rfl, p, _, 0, .str "plural", rfl, rfl, .inl (.inl hp), atI_nat (j := 0) rfl, rfl, _, rfl, iteF ?_⟩
      refine ⟨_, rfl, p, _, 0, .str "plural", rfl, rfl, .inl (.inl hp), atI_nat (j := 0) rfl, rfl, _, rfl, iteF ?_⟩
      refine ⟨_, rfl, p, _, 0, .str "plural", rfl, rfl, .inl (.inl hp), atI_nat (j := 0) rfl, rfl, _, rfl, iteF ?_⟩
      exact ⟨_, rfl, last⟩
end
end Mw

namespace Mw
open PySem L2
theorem Pts.rev_nodes {H : Hp} : ∀ {t : T} {vs : List V}, Nodes H t vs → Wf t false → Sm t → Pts H (t.nodes.map Pt.n) vs
  | .nil, _, h, _, _ => h
  | .text s r, _, h, w, m => by
    obtain ⟨p, ws, rfl, hp, hr⟩ := h
    exact ⟨_, ws, rfl, ⟨⟨p, [], rfl, hp, rfl⟩, ⟨rfl, trivial⟩, m.1, trivial⟩, Pts.rev_nodes hr w.2 m.2⟩
  | .shw s r, _, h, w, m => by
    obtain ⟨p, ws, rfl, hp, hr⟩ := h
    exact ⟨_, ws, rfl, ⟨⟨p, [], rfl, hp, rfl⟩, ⟨rfl, trivial⟩, m.1, trivial⟩, Pts.rev_nodes hr w.2 m.2⟩
  | .num r, _, h, w, m => by
    obtain ⟨p, ws, rfl, hp, hr⟩ := h
    exact ⟨_, ws, rfl, ⟨⟨p, [], rfl, hp, rfl⟩, ⟨rfl, trivial⟩, trivial⟩, Pts.rev_nodes hr w.2 m⟩
  | .cho hd cs o r, _, h, w, m => by
    obtain ⟨p, ws, ca, cvs, oa, ovs, rfl, hp, hc, hcs, ho, hos, hr⟩ := h
    exact ⟨_, ws, rfl, ⟨⟨p, [], ca, cvs, oa, ovs, rfl, hp, hc, hcs, ho, hos, rfl⟩, ⟨rfl, w.2.1, w.2.2.1, w.2.2.2.1, trivial⟩, m.1, m.2.1, m.2.2.1, trivial⟩, Pts.rev_nodes hr w.2.2.2.2 m.2.2.2⟩
  | .cas k m r, _, _, w, _ => by cases w.1
theorem Pw_nodes : ∀ t : T, Pw (t.nodes.map Pt.n) = t.wr
  | .nil => rfl
  | .text s r => by have ih := Pw_nodes r; simp only [Pw] at ih; simp [T.nodes, Pw, Pt.wr, T.wr, ih]
  | .shw s r => by have ih := Pw_nodes r; simp only [Pw] at ih; simp [T.nodes, Pw, Pt.wr, T.wr, ih]
  | .num r => by have ih := Pw_nodes r; simp only [Pw] at ih; simp [T.nodes, Pw, Pt.wr, T.wr, ih]
  | .cho hd cs o r => by have ih := Pw_nodes r; simp only [Pw] at ih; simp [T.nodes, Pw, Pt.wr, T.wr, ih]
  | .cas k m r => by have ih := Pw_nodes r; simp only [Pw] at ih; simp [T.nodes, Pw, Pt.wr, T.wr, ih]
theorem Pm_nodes : ∀ t : T, Pm (t.nodes.map Pt.n) = 6 * t.sz
  | .nil => rfl
  | .text s r => by have ih := Pm_nodes r; simp only [Pm] at ih; simp only [T.nodes, Pm, List.map_cons, List.sum_cons, Pt.wt, T.sz, ih]; omega
  | .shw s r => by have ih := Pm_nodes r; simp only [Pm] at ih; simp only [T.nodes, Pm, List.map_cons, List.sum_cons, Pt.wt, T.sz, ih]; omega
  | .num r => by have ih := Pm_nodes r; simp only [Pm] at ih; simp only [T.nodes, Pm, List.map_cons, List.sum_cons, Pt.wt, T.sz, ih]; omega
  | .cho hd cs o r => by have ih := Pm_nodes r; simp only [Pm] at ih; simp only [T.nodes, Pm, List.map_cons, List.sum_cons, Pt.wt, T.sz, ih]; omega
  | .cas k m r => by have ih := Pm_nodes r; simp only [Pm] at ih; simp only [T.nodes, Pm, List.map_cons, List.sum_cons, Pt.wt, T.sz, ih]; omega
theorem Pm_len (ps : List Pt) (hp : ∀ p ∈ ps, 1 ≤ p.wt) : ps.length ≤ Pm ps := by
  induction ps with
  | nil => exact Nat.le_refl _
  | cons p ps ih =>
    have h1 := hp p List.mem_cons_self
    have h2 := ih fun q hq => hp q (List.mem_cons_of_mem _ hq)
    simp only [Pm, List.map_cons, List.sum_cons, List.length_cons] at h2 ⊢
    omega
theorem Pts.wt {H : Hp} : ∀ {ps : List Pt} {vs : List V}, Pts H ps vs → ∀ p ∈ ps, 1 ≤ p.wt
  | [], _, _, p, hp => by cases hp
  | q :: qs, _, h, p, hp => by
    obtain ⟨v, ws, rfl, h1, h2⟩ := h
    rcases List.mem_cons.mp hp with rfl | hp
    · cases p with
      | s x => exact Nat.le_refl _
      | m t => show 1 ≤ 6 * t.sz + 1; omega
      | n u =>
        obtain ⟨h1, _⟩ := (show Nodes H u [v] ∧ _ from h1)
        have e := h1.length
        have := len_sz u
        simp only [List.length_cons, List.length_nil] at e
        show 1 ≤ 6 * u.sz
        omega
    · exact Pts.wt h2 p hp
theorem Pts.sz {H : Hp} {N : Nat} {ps : List Pt} (h : Pm ps ≤ N) : ∀ p ∈ ps, p.wt ≤ N := by
  induction ps with
  | nil => intro p hp; cases hp
  | cons q qs ih =>
    simp only [Pm, List.map_cons, List.sum_cons] at h ih
    intro p hp
    rcases List.mem_cons.mp hp with rfl | hp
    · omega
    · exact ih (by omega) p hp
section
variable {P : Program} {w : World} {K : PySem.W.Frag} {mg : Str → Option Value} {base : Heap}
abbrev sFm : Stmt := top 23
theorem scFm : FnScope ["message", "written", "ahead", "part"] ["message"] (defScope sFm) := ⟨rfl, rfl, rfl, by decide +kernel, rfl, by decide +kernel, by decide +kernel⟩
def spFm : Sp := fun vs H Q _ => ∃ (a : Addr) (t : T), vs = [.ref a] ∧ At H a t ∧ Wf t false ∧ Sm t ∧ t.sz < 90000 ∧ ∀ H', Same H H' → Q (.str (mkS t.wr)) H'
theorem ok_fm {f fN : Addr} {fd fdN : FuncData} (F : Fun K "format_message" "format_message" sFm f fd) (GN : FnOk P w K mg base CX0 3 fN fdN ["node"] spNp) (bN : Binds K fdN ["node"] []) (kN : PySem.W.keepIn K (.ref fN) = true) (mN : mg "node_parts" = some (.ref fN))
    (mi : mg "isinstance" = none) (ms : mg "str" = none) (ml : mg "list" = none) : FnOk P w K mg base CX0 4 f fd ["message"] spFm := by
  refine F.ok scFm (fun vs H Q E h => ?_) (fun cdv A outer s H vs Q E hr h => ?_)
  · obtain ⟨a, t, rfl, _⟩ := h
    rfl
  obtain ⟨a, t, rfl, ha, hw, hs, hz, q⟩ := h
  have nd := scFm.nd
  refine ⟨_, pss_cons (ps_set (i := 1) nd rfl (.inl rfl) (pe_lst pa_nil)) (pss_cons (ps_set (i := 2) nd rfl (.inl rfl) (pe_lst (pa_cons (pv 0) pa_nil)))
    (pss_cons (ps_while PassesOwn.never (pt_truth (pv 2) (by intro _; rfl))
      (pss_cons (ps_set (i := 3) nd rfl (.inl rfl) (pe_bm0 PySem.F.plainAttrs_list PySem.F.slot_list_pop PySem.F.type_list_pop mt_pop (pv 2)))
      (pss_one (ps_if (pt_val (pe_callB call_isi (by rfl) mi (by decide +kernel) (pa_cons (pv 3) (pa_cons (pe_bltn (v := .ty "str") (by rfl) ms (by decide +kernel) rfl) pa_nil))))
        (pss_one (ps_expr (pe_bm PySem.F.plainAttrs_list PySem.F.slot_list_append PySem.F.type_list_append mt_append (pv 1) (pa_cons (pv 3) pa_nil))))
        (pss_one (ps_if (pt_val (pe_callB call_isi (by rfl) mi (by decide +kernel) (pa_cons (pv 3) (pa_cons (pe_bltn (v := .ty "list") (by rfl) ml (by decide +kernel) rfl) pa_nil))))
          (pss_one (ps_expr (pe_bm PySem.F.plainAttrs_list PySem.F.slot_list_extend PySem.F.type_list_extend mt_extend (pv 2) (pa_cons (pe_revL (pv 3)) pa_nil))))
          (pss_one (ps_expr (pe_bm PySem.F.plainAttrs_list PySem.F.slot_list_extend PySem.F.type_list_extend mt_extend (pv 2) (pa_cons (pe_revL (pe_call GN hr rfl mN kN bN .nil pass0 (pa_cons (pv 3) pa_nil))) pa_nil))))))))))
    (pss_one (ps_ret (pe_join pe_str (pv 1)))))), ?_⟩
  refine ⟨Nat.zero_le _, fun fl hfl => ?_⟩
  have s1 : Same H (upd H fl (.lst [])) := same_new hfl _
  refine ⟨_, rfl, by show 1 ≤ sizeLine; decide, fun al hal => ?_⟩
  have s2 : Same H (upd (upd H fl (.lst [])) al (.lst [.ref a])) := s1.trans (same_new hal _)
  have hal0 : H al = none := upd_none hal
  have hne : al ≠ fl := fun e => by rw [e, upd_same] at hal; cases hal
  have hwl := wr_len hs
  refine ⟨fun m σ H' => ∃ (ys : List Str) (as : List V) (ps : List Pt) (o3 : Option V), σ = [some (.ref a), some (.ref fl), some (.ref al), o3] ∧ Same H H' ∧ H' fl = some (.lst (ys.map V.str)) ∧ H' al = some (.lst as) ∧ Pts H ps as.reverse ∧ (ys.map tl).flatten ++ Pw ps = t.wr ∧ ys.length + m ≤ 6 * t.sz + 1 ∧ m = Pm ps,
    ⟨6 * t.sz + 1, [], [.ref a], [.m t], none, rfl, s2, (by rw [upd_ne hne.symm]; exact upd_same), upd_same, ⟨_, [], rfl, ⟨a, rfl, ha, hw, hs⟩, rfl⟩, (by simp [Pw, Pt.wr]), (by simp), (by simp [Pm, Pt.wt])⟩, ?_⟩
  rintro m σ H' ⟨ys, as, ps, o3, rfl, s', hf, ha', hP, hwr, hm, rfl⟩
  refine ⟨.ref al, rfl, !as.isEmpty, .inl ⟨as, SqL.of ha', rfl⟩, ?_⟩
  cases ps with
  | nil =>
    have e : as = [] := List.reverse_eq_nil_iff.mp (show as.reverse = [] from hP)
    subst e
    refine iteF ?_
    have e2 : (ys.map tl).flatten = t.wr := by simpa [Pw] using hwr
    refine ⟨⟨_, rfl⟩, _, rfl, _, fl, ys, rfl, rfl, .inl (SqL.of hf), ?_, ?_⟩
    · have e3 : (ys.map (·.length)).sum = t.wr.length := by
        rw [← e2, List.length_flatten, List.map_map]
        congr 1
      have e0 : ("" : Str).length = 0 := rfl
      rw [e3, e0]
      omega
    · rw [join_cat, show catS ys = mkS t.wr by unfold catS mkS; rw [e2]]
      exact q H' s'
  | cons p ps =>
    obtain ⟨v, vr, e, hp1, hp2⟩ := hP
    have e' : as = vr.reverse ++ [v] := by
      rw [← List.reverse_reverse as, e, List.reverse_cons]
    subst e'
    have hT : (!(vr.reverse ++ [v]).isEmpty) = true := by simp
    rw [hT]
    refine iteT ?_
    have hpm : Pm (p :: ps) = p.wt + Pm ps := by simp [Pm]
    have hpw : Pw (p :: ps) = p.wr ++ Pw ps := by simp [Pw]
    have hwt : 1 ≤ p.wt := Pts.wt (H := H) (show Pts H (p :: ps) (v :: vr) from ⟨v, vr, rfl, hp1, hp2⟩) p List.mem_cons_self
    rw [hpm] at hm
    rw [hpw] at hwr
    refine ⟨fun σ' H'' => ∃ m', m' < Pm (p :: ps) ∧ ∃ (ys : List Str) (as : List V) (ps : List Pt) (o3 : Option V), σ' = [some (.ref a), some (.ref fl), some (.ref al), o3] ∧ Same H H'' ∧ H'' fl = some (.lst (ys.map V.str)) ∧ H'' al = some (.lst as) ∧ Pts H ps as.reverse ∧ (ys.map tl).flatten ++ Pw ps = t.wr ∧ ys.length + m' ≤ 6 * t.sz + 1 ∧ m' = Pm ps, fun σ' H'' z => z, ?_⟩
    refine ⟨.ref al, rfl, .inl ⟨rfl, _, SqL.of ha'⟩, al, _, v, rfl, rfl, ha', by simp, ?_⟩
    rw [List.dropLast_concat]
    have s3 : Same H (upd H' al (.lst vr.reverse)) := same_mut s' hal0 _
    have hf3 : upd H' al (.lst vr.reverse) fl = some (.lst (ys.map V.str)) := by rw [upd_ne hne.symm]; exact hf
    have hal3 : upd H' al (.lst vr.reverse) al = some (.lst vr.reverse) := upd_same
    have hpsl : (p :: ps).length ≤ 6 * t.sz + 1 := by
      have := Pm_len (p :: ps) (Pts.wt (H := H) (show Pts H (p :: ps) (v :: vr) from ⟨v, vr, rfl, hp1, hp2⟩))
      rw [hpm] at this
      omega
    have hvl : vr.length ≤ 6 * t.sz := by
      have := hp2.length
      simp only [List.length_cons] at hpsl
      omega
    -- what a part of parts comes to
    have more : ∀ (H5 : Hp) (qs : List Pt) (ms : List V) (nl : Addr), Same (upd H' al (.lst vr.reverse)) H5 → Pts H qs ms → Pw qs = p.wr → Pm qs < p.wt → H5 nl = none →
        ∃ (m' : Nat), m' < Pm (p :: ps) ∧ ∃ (ys' : List Str) (as' : List V) (ps' : List Pt) (o3 : Option V), [some (V.ref a), some (V.ref fl), some (V.ref al), some v] = [some (.ref a), some (.ref fl), some (.ref al), o3] ∧ Same H (upd (upd H5 nl (.lst ms.reverse)) al (.lst (vr.reverse ++ ms.reverse))) ∧
          upd (upd H5 nl (.lst ms.reverse)) al (.lst (vr.reverse ++ ms.reverse)) fl = some (.lst (ys'.map V.str)) ∧ upd (upd H5 nl (.lst ms.reverse)) al (.lst (vr.reverse ++ ms.reverse)) al = some (.lst as') ∧ Pts H ps' as'.reverse ∧ (ys'.map tl).flatten ++ Pw ps' = t.wr ∧ ys'.length + m' ≤ 6 * t.sz + 1 ∧ m' = Pm ps' := by
      intro H5 qs ms nl s5 hq hqw hqm hnl
      have hnf : nl ≠ fl := (ne_of_none (s5 _ _ hf3) hnl).symm
      refine ⟨Pm (qs ++ ps), by rw [Pm_app, hpm]; omega, ys, vr.reverse ++ ms.reverse, qs ++ ps, _, rfl, same_mut ((s3.trans s5).trans (same_new hnl _)) hal0 _, ?_, upd_same, ?_, ?_, ?_, rfl⟩
      · rw [upd_ne hne.symm, upd_ne hnf.symm]
        exact s5 _ _ hf3
      · rw [List.reverse_append, List.reverse_reverse, List.reverse_reverse]
        exact Pts.app hp2 hq
      · rw [Pw_app, hqw]
        exact hwr
      · rw [Pm_app]
        omega
    have wide : ∀ (qs : List Pt) (ms : List V), Pts H qs ms → Pm qs < p.wt → vr.reverse.length + ms.reverse.length < 10000000 := by
      intro qs ms hq hm2
      have z1 := Pm_len qs (Pts.wt hq)
      have z2 := hq.length
      rw [List.length_reverse, List.length_reverse]
      omega
    cases p with
    | s x =>
      obtain ⟨rfl, hx⟩ := (show v = .str x ∧ x.length ≤ 100000 from hp1)
      refine ⟨_, rfl, .str x, .ty "str", .type "str", .type "str", true, rfl, .ty "str", .base (.str x), kit_ty (by decide +kernel), true, rfl, ?_⟩
      refine iteT ⟨_, rfl, .inl ⟨rfl, _, SqL.of hf3⟩, _, rfl, fl, _, _, rfl, rfl, hf3, sz_line (by rw [List.length_map]; omega), ?_⟩
      refine ⟨Pm ps, by rw [hpm]; omega, ys ++ [x], vr.reverse, ps, _, rfl, same_mut s3 hfl _, by rw [upd_same, List.map_append]; rfl, by rw [upd_ne hne]; exact hal3, by rw [List.reverse_reverse]; exact hp2, ?_, ?_, rfl⟩
      · rw [← hwr]
        simp [Pt.wr]
      · rw [List.length_append]
        show ys.length + 1 + Pm ps ≤ 6 * t.sz + 1
        omega
    | m t' =>
      obtain ⟨b, rfl, ⟨mvs, hb, hbn⟩, tw, ts⟩ := (show ∃ a, v = .ref a ∧ At H a t' ∧ Wf t' false ∧ Sm t' from hp1)
      have hb3 := s3 _ _ hb
      refine ⟨_, rfl, .ref b, .ty "str", .type "list", .type "str", false, rfl, .ty "str", .base (.lst hb3), kit_ty (by decide +kernel), false, rfl, ?_⟩
      refine iteF ⟨_, rfl, .ref b, .ty "list", .type "list", .type "list", true, rfl, .ty "list", .base (.lst hb3), kit_ty (by decide +kernel), true, rfl, ?_⟩
      have hq := Pts.rev_nodes hbn tw ts
      have hqm : Pm (t'.nodes.map Pt.n) < (Pt.m t').wt := by rw [Pm_nodes]; exact Nat.lt_succ_self _
      refine iteT ⟨_, rfl, .inl ⟨rfl, _, SqL.of hal3⟩, _, rfl, b, mvs, rfl, SqL.of hb3, fun nl hnl => ?_⟩
      have nna : nl ≠ al := (ne_of_none hal3 hnl).symm
      refine ⟨al, nl, vr.reverse, mvs.reverse, rfl, rfl, by rw [upd_ne nna.symm]; exact hal3, upd_same, le_line (wide _ _ hq hqm), ?_⟩
      exact more _ _ _ nl (Same.refl _) hq (Pw_nodes t') hqm hnl
    | n u =>
      obtain ⟨hun, uw, us⟩ := (show Nodes H u [v] ∧ Wf u false ∧ Sm u from hp1)
      obtain ⟨p', x0, xs, rfl, hp', _⟩ := node_of hun uw
      have hp3 := s3 _ _ hp'
      have husz : u.sz < 100000 := by
        have : (Pt.n u).wt = 6 * u.sz := rfl
        omega
      refine ⟨_, rfl, .ref p', .ty "str", .type "tuple", .type "str", false, rfl, .ty "str", .base (.tup hp3), kit_ty (by decide +kernel), false, rfl, ?_⟩
      refine iteF ⟨_, rfl, .ref p', .ty "list", .type "tuple", .type "list", false, rfl, .ty "list", .base (.tup hp3), kit_ty (by decide +kernel), false, rfl, ?_⟩
      refine iteF ⟨_, rfl, .inl ⟨rfl, _, SqL.of hal3⟩, _, rfl, H, .ref p', u, rfl, s3, hun, uw, us, husz, fun l2 H5 ws qs hl2 s5 hl5 hq hqw hqm => ?_⟩
      refine ⟨l2, ws, rfl, SqL.of hl5, fun nl hnl => ?_⟩
      have hal5 := s5 _ _ hal3
      have nna : nl ≠ al := (ne_of_none hal5 hnl).symm
      refine ⟨al, nl, vr.reverse, ws.reverse, rfl, rfl, by rw [upd_ne nna.symm]; exact hal5, upd_same, le_line (wide _ _ hq hqm), ?_⟩
      exact more _ _ _ nl s5 hq hqw hqm hnl
end
end Mw

namespace Mw
open PySem L2
def Gp (g : List Nat) : Prop := ∀ c ∈ g, c = 32 ∨ c = 10
def Gp1 (g : List Nat) : Prop := g ≠ [] ∧ Gp g
section
variable {P : Program} {w : World} {K : PySem.W.Frag} {mg : Str → Option Value} {base : Heap}
/-! ### the law's gaps -/
abbrev sGap : Stmt := top 37
abbrev sOne : Stmt := top 38
theorem scGap : FnScope ["box", "loose"] ["box", "loose"] (defScope sGap) := ⟨rfl, rfl, rfl, by decide +kernel, rfl, by decide +kernel, by decide +kernel⟩
theorem scOne : FnScope ["box", "loose"] ["box", "loose"] (defScope sOne) := ⟨rfl, rfl, rfl, by decide +kernel, rfl, by decide +kernel, by decide +kernel⟩
def spGap : Sp := fun vs H Q _ => ∃ (B d : Addr) (lo : Bool), vs = [.ref B, .bl lo] ∧ Box H B d ∧ ∀ (s : Str) H', Gp (tl s) → s.length ≤ 2 → (lo = false → s = mkS []) → Go B H H' → Box H' B d → Q (.str s) H'
def spOne : Sp := fun vs H Q _ => ∃ (B d : Addr) (lo : Bool), vs = [.ref B, .bl lo] ∧ Box H B d ∧ ∀ (s : Str) H', Gp1 (tl s) → s.length ≤ 2 → (lo = false → s = mkS [32]) → Go B H H' → Box H' B d → Q (.str s) H'
theorem gap_ok : ∀ s ∈ (["", " ", "\n", "  "] : List Str), s.length ≤ 2 ∧ ∀ c ∈ tl s, c = 32 ∨ c = 10 := by decide +kernel
theorem one_ok' : ∀ s ∈ ([" ", "\n", "  "] : List Str), s.length ≤ 2 ∧ tl s ≠ [] ∧ ∀ c ∈ tl s, c = 32 ∨ c = 10 := by decide +kernel
theorem ok_gap {f fD : Addr} {fd fdD : FuncData} (F : Fun K "_law_gap" "_law_gap" sGap f fd) (GD : FnOk P w K mg base CX0 1 fD fdD ["box", "many"] spDraw) (bD : Binds K fdD ["box", "many"] []) (kD : PySem.W.keepIn K (.ref fD) = true) (mD : mg "_law_draw" = some (.ref fD)) :
    FnOk P w K mg base CX0 2 f fd ["box", "loose"] spGap := by
  refine F.ok scGap (fun vs H Q E h => ?_) (fun cdv A outer s H vs Q E hr h => ?_)
  · obtain ⟨B, d, lo, rfl, _⟩ := h
    rfl
  obtain ⟨B, d, lo, rfl, hb, q⟩ := h
  refine ⟨_, pss_cons (ps_if (pt_not (pt_val (pv 1))) (pss_one (ps_ret pe_str)) pss_nil)
    (pss_one (ps_ret (pe_ix ix_list (pe_lst (pa_cons pe_str (pa_cons pe_str (pa_cons pe_str (pa_cons pe_str pa_nil))))) (pe_call GD hr rfl mD kD bD .nil pass0 (pa_cons (pv 0) (pa_cons pe_int pa_nil))) (fun _ _ => rfl)))), ?_⟩
  refine ⟨_, rfl, lo, rfl, ?_⟩
  cases lo with
  | false => exact iteT (q _ H (fun c h => by cases h) (by decide) (fun _ => rfl) (Go.refl B H) hb)
  | true =>
    refine iteF ⟨by show 4 ≤ sizeLine; decide, fun l hl => ?_⟩
    have nB : l ≠ B := hb.neB hl
    refine ⟨_, rfl, B, d, 4, rfl, by decide, hb.new hl _, fun z H' h0 h1 g hb' => ?_⟩
    obtain ⟨x, hx, ha⟩ := pick (l := (["", " ", "\n", "  "] : List Str)) (g := V.str) (z := z) h0 (by show z < ((4 : Nat) : Int); omega)
    refine ⟨l, _, z, .str x, rfl, rfl, SqL.of (g.ext _ _ nB upd_same), ha, ?_⟩
    exact q x _ (gap_ok x hx).2 (gap_ok x hx).1 (fun e => by cases e) ((Go.new hl _).trans g) hb'
theorem ok_one {f fD : Addr} {fd fdD : FuncData} (F : Fun K "_law_one_gap" "_law_one_gap" sOne f fd) (GD : FnOk P w K mg base CX0 1 fD fdD ["box", "many"] spDraw) (bD : Binds K fdD ["box", "many"] []) (kD : PySem.W.keepIn K (.ref fD) = true) (mD : mg "_law_draw" = some (.ref fD)) :
    FnOk P w K mg base CX0 2 f fd ["box", "loose"] spOne := by
  refine F.ok scOne (fun vs H Q E h => ?_) (fun cdv A outer s H vs Q E hr h => ?_)
  · obtain ⟨B, d, lo, rfl, _⟩ := h
    rfl
  obtain ⟨B, d, lo, rfl, hb, q⟩ := h
  refine ⟨_, pss_cons (ps_if (pt_not (pt_val (pv 1))) (pss_one (ps_ret pe_str)) pss_nil)
    (pss_one (ps_ret (pe_ix ix_list (pe_lst (pa_cons pe_str (pa_cons pe_str (pa_cons pe_str pa_nil)))) (pe_call GD hr rfl mD kD bD .nil pass0 (pa_cons (pv 0) (pa_cons pe_int pa_nil))) (fun _ _ => rfl)))), ?_⟩
  refine ⟨_, rfl, lo, rfl, ?_⟩
  cases lo with
  | false => exact iteT (q _ H ⟨by decide, (one_ok' " " (by decide)).2.2⟩ (by decide) (fun _ => rfl) (Go.refl B H) hb)
  | true =>
    refine iteF ⟨by show 3 ≤ sizeLine; decide, fun l hl => ?_⟩
    have nB : l ≠ B := hb.neB hl
    refine ⟨_, rfl, B, d, 3, rfl, by decide, hb.new hl _, fun z H' h0 h1 g hb' => ?_⟩
    obtain ⟨x, hx, ha⟩ := pick (l := ([" ", "\n", "  "] : List Str)) (g := V.str) (z := z) h0 (by show z < ((3 : Nat) : Int); omega)
    refine ⟨l, _, z, .str x, rfl, rfl, SqL.of (g.ext _ _ nB upd_same), ha, ?_⟩
    exact q x _ ⟨(one_ok' x hx).2.1, (one_ok' x hx).2.2⟩ (one_ok' x hx).1 (fun e => by cases e) ((Go.new hl _).trans g) hb'
end
end Mw

namespace Mw
open PySem L2
section
variable {P : Program} {w : World} {K : PySem.W.Frag} {mg : Str → Option Value} {base : Heap}
abbrev sLe : Stmt := top 36
theorem scLe : FnScope ["text", "found", "sign"] ["text"] (defScope sLe) := ⟨rfl, rfl, rfl, by decide +kernel, rfl, by decide +kernel, by decide +kernel⟩
theorem sign_eq (c d : Nat) : (decide (V.str ⟨#[c]⟩ = V.str ⟨#[d]⟩)) = decide (c = d) := by
  by_cases h : c = d
  · subst h
    simp
  · have : ¬ (V.str ⟨#[c]⟩ = V.str ⟨#[d]⟩) := fun e => h (by
      injection e with e
      injection e with e
      have e2 : [c] = [d] := congrArg Array.toList e
      injection e2)
    rw [decide_eq_false this, decide_eq_false h]
theorem ok_le {f : Addr} {fd : FuncData} (F : Fun K "_law_escaped" "_law_escaped" sLe f fd) : FnOk P w K mg base CX0 1 f fd ["text"] spEsc := by
  refine F.ok scLe (fun vs H Q E h => ?_) (fun cdv A outer s H vs Q E hr h => ?_)
  · obtain ⟨s, rfl, _⟩ := h
    rfl
  obtain ⟨s, rfl, hs, q⟩ := h
  have nd := scLe.nd
  refine ⟨_, pss_cons (ps_set (i := 1) nd rfl (.inl rfl) pe_str)
    (pss_cons (ps_for PassesOwn.never rfl (pi_str (pv 0)) (pg_name (i := 2) nd rfl (.inl rfl))
      (pss_one (ps_if (pt_cmpR op_eq (pv 2) pe_str (nomark _)) (pss_one (ps_set (i := 1) nd rfl (.inl rfl) (pe_op op_add_str (pv 1) pe_str)))
        (pss_one (ps_if (pt_cmpR op_in_sign (pv 2) pe_str (by rfl)) (pss_one (ps_set (i := 1) nd rfl (.inl rfl) (pe_op op_add_str (pe_op op_add_str (pe_op op_add_str (pv 1) pe_str) (pv 2)) pe_str)))
          (pss_one (ps_set (i := 1) nd rfl (.inl rfl) (pe_op op_add_str (pv 1) (pv 2)))))))))
    (pss_one (ps_ret (pv 1)))), ?_⟩
  have hsz : s.cps.size = (tl s).length := len_tl' s
  have h9 : (tl s).length ≤ 10000 := (len_tl' s) ▸ hs
  refine ⟨_, rfl, s, rfl, for_it (walk_str (z := s)) (fun i σ H' => ∃ o2, σ = [some (.str s), some (.str (mkS (escL ((tl s).take i)))), o2] ∧ Same H H') ⟨none, rfl, Same.refl _⟩ (fun _ _ _ _ _ => trivial) ?_ ?_⟩
  · rintro i x σ H1 H2 hi ⟨o2, rfl, s1⟩ ⟨rfl, c, hc, rfl⟩
    have hc' : (tl s)[i]? = some c := by
      rw [← hc]
      simp [tl]
    have hl : (escL ((tl s).take i)).length ≤ 30000 := by
      have z1 := escL_len ((tl s).take i)
      rw [List.length_take] at z1
      omega
    have hnx : escL ((tl s).take (i + 1)) = escL ((tl s).take i) ++ escC c := by
      rw [List.take_succ, hc']
      simp [escL]
    have q39 : ("'" : Str).length = 1 := rfl
    have qq : ("''" : Str).length = 2 := rfl
    have q1 : (⟨#[c]⟩ : Str).length = 1 := rfl
    refine ⟨_, rfl, rfl, _, rfl, ?_⟩
    show (if decide (V.str ⟨#[c]⟩ = V.str ⟨#[39]⟩) = true then _ else _)
    rw [sign_eq]
    by_cases h39 : c = 39
    · subst h39
      refine iteT ⟨_, rfl, _, _, rfl, rfl, le_line (by rw [mk_len]; omega), some (.str ⟨#[39]⟩), ?_, s1⟩
      rw [hnx]
      have : mkS (escL ((tl s).take i)) ++ ("''" : Str) = mkS (escL ((tl s).take i) ++ escC 39) := mk_app _ _
      rw [← this]
      rfl
    · rw [decide_eq_false h39]
      refine iteF ⟨_, rfl, c, "{}#", rfl, rfl, _, rfl, ?_⟩
      have em : (decide (c ∈ ("{}#" : Str).cps.toList)) = decide (c = 123 ∨ c = 125 ∨ c = 35) := by
        have : ("{}#" : Str).cps.toList = [123, 125, 35] := rfl
        rw [this]
        simp
      show (if decide (c ∈ ("{}#" : Str).cps.toList) = true then _ else _)
      rw [em]
      by_cases hm : c = 123 ∨ c = 125 ∨ c = 35
      · rw [decide_eq_true hm]
        have ec : escC c = [39, c, 39] := by
          rcases hm with rfl | rfl | rfl <;> rfl
        refine iteT ⟨_, rfl, _, _, rfl, rfl, le_line (by rw [mk_len]; omega), _, rfl, _, _, rfl, rfl, le_line (by rw [sl, mk_len]; omega), _, _, rfl, rfl, le_line (by rw [sl, sl, mk_len]; omega), some (.str ⟨#[c]⟩), ?_, s1⟩
        rw [hnx, ec]
        have : mkS (escL ((tl s).take i)) ++ ("'" : Str) ++ ⟨#[c]⟩ ++ ("'" : Str) = mkS (escL ((tl s).take i) ++ [39, c, 39]) := by
          refine TL.ext_tl ?_
          rw [TL.tl_append, TL.tl_append, TL.tl_append]
          show ((escL ((tl s).take i) ++ [39]) ++ [c]) ++ [39] = escL ((tl s).take i) ++ [39, c, 39]
          simp
        rw [← this]
        rfl
      · rw [decide_eq_false hm]
        have ec : escC c = [c] := by
          unfold escC
          rw [if_neg h39, if_neg (fun e => hm (.inl e)), if_neg (fun e => hm (.inr (.inl e))), if_neg (fun e => hm (.inr (.inr e)))]
        refine iteF ⟨_, rfl, _, rfl, _, _, rfl, rfl, le_line (by rw [mk_len]; omega), some (.str ⟨#[c]⟩), ?_, s1⟩
        rw [hnx, ec]
        have : mkS (escL ((tl s).take i)) ++ (⟨#[c]⟩ : Str) = mkS (escL ((tl s).take i) ++ [c]) := mk_app _ _
        rw [← this]
        rfl
  · rintro σ H1 ⟨o2, rfl, s1⟩
    rw [hsz, List.take_length]
    exact ⟨_, rfl, q H1 s1⟩
end
end Mw

namespace Mw
open PySem L2
def T.dep : T → Nat
  | .nil => 0
  | .text _ r => r.dep
  | .shw _ r => r.dep
  | .num r => r.dep
  | .cho _ cs o r => max (max cs.dep o.dep + 1) r.dep
  | .cas _ m r => max m.dep r.dep
theorem dep_nodes : ∀ {t : T}, ∀ u ∈ t.nodes, u.dep ≤ t.dep
  | .nil, u, h => by cases h
  | .text s r, u, h => by
    rcases List.mem_cons.mp h with rfl | h
    · exact Nat.zero_le _
    · exact dep_nodes (t := r) u h
  | .shw s r, u, h => by
    rcases List.mem_cons.mp h with rfl | h
    · exact Nat.zero_le _
    · exact dep_nodes (t := r) u h
  | .num r, u, h => by
    rcases List.mem_cons.mp h with rfl | h
    · exact Nat.zero_le _
    · exact dep_nodes (t := r) u h
  | .cho hd cs o r, u, h => by
    rcases List.mem_cons.mp h with rfl | h
    · simp only [T.dep]
      omega
    · have := dep_nodes u h
      simp only [T.dep]
      omega
  | .cas k m r, u, h => by
    rcases List.mem_cons.mp h with rfl | h
    · simp only [T.dep]
      omega
    · have := dep_nodes u h
      simp only [T.dep]
      omega
theorem dep_msgs : ∀ {t : T}, ∀ m ∈ t.msgs, m.dep ≤ t.dep
  | .nil, u, h => by cases h
  | .text s r, u, h => by cases h
  | .shw s r, u, h => by cases h
  | .num r, u, h => by cases h
  | .cho hd cs o r, u, h => by cases h
  | .cas k m r, u, h => by
    rcases List.mem_cons.mp h with rfl | h
    · simp only [T.dep]
      omega
    · have := dep_msgs u h
      simp only [T.dep]
      omega
section
variable {P : Program} {w : World} {K : PySem.W.Frag} {mg : Str → Option Value} {base : Heap}
theorem none_left {f : Addr} {fd : FuncData} {ps : List Str} {sp : Sp} (no : ∀ vs H Q E, ¬ sp vs H Q E) : FnOk P w K mg base CX0 0 f fd ps sp :=
  ⟨fun vs H Q E h => absurd h (no vs H Q E), fun A outer s H args us vs Q E _ _ _ _ h => absurd h (no vs H Q E)⟩
end
theorem sz_nodes : ∀ {t : T}, ∀ u ∈ t.nodes, u.sz ≤ t.sz
  | .nil, u, h => by cases h
  | .text s r, u, h => by
    rcases List.mem_cons.mp h with rfl | h
    · simp only [T.sz]
      omega
    · have := sz_nodes u h
      simp only [T.sz]
      omega
  | .shw s r, u, h => by
    rcases List.mem_cons.mp h with rfl | h
    · simp only [T.sz]
      omega
    · have := sz_nodes u h
      simp only [T.sz]
      omega
  | .num r, u, h => by
    rcases List.mem_cons.mp h with rfl | h
    · simp only [T.sz]
      omega
    · have := sz_nodes u h
      simp only [T.sz]
      omega
  | .cho hd cs o r, u, h => by
    rcases List.mem_cons.mp h with rfl | h
    · simp only [T.sz]
      omega
    · have := sz_nodes u h
      simp only [T.sz]
      omega
  | .cas k m r, u, h => by
    rcases List.mem_cons.mp h with rfl | h
    · simp only [T.sz]
      omega
    · have := sz_nodes u h
      simp only [T.sz]
      omega
theorem sz_msgs : ∀ {t : T}, ∀ m ∈ t.msgs, m.sz ≤ t.sz
  | .nil, u, h => by cases h
  | .text s r, u, h => by cases h
  | .shw s r, u, h => by cases h
  | .num r, u, h => by cases h
  | .cho hd cs o r, u, h => by cases h
  | .cas k m r, u, h => by
    rcases List.mem_cons.mp h with rfl | h
    · simp only [T.sz]
      omega
    · have := sz_msgs u h
      simp only [T.sz]
      omega
/-! ### a message's notation with any gaps -/
def Gq (g : List Nat) : Prop := Gp g ∧ g.length ≤ 2
def Gq1 (g : List Nat) : Prop := Gp1 g ∧ g.length ≤ 2
def offW (off : Int) : List Nat := tl "offset:" ++ tl (toString off : Str)
/-- the head of a choice, up to its cases -/
def Hl : List V → List Nat → Prop
  | [.str x, .str n], h => ∃ g1 g2 g3 g4, Gq g1 ∧ Gq g2 ∧ Gq1 g3 ∧ Gq g4 ∧ h = [123] ++ g1 ++ tl n ++ g2 ++ [44] ++ g3 ++ tl x ++ g4 ++ [44]
  | [.str x, .str n, .int off], h => ∃ g1 g2 g3 g4 e, Gq g1 ∧ Gq g2 ∧ Gq1 g3 ∧ Gq g4 ∧ h = [123] ++ g1 ++ tl n ++ g2 ++ [44] ++ g3 ++ tl x ++ g4 ++ [44] ++ e ∧ ((off = 0 ∧ e = []) ∨ (off ≠ 0 ∧ ∃ g, Gq1 g ∧ e = g ++ offW off))
  | _, _ => False
def Ln : T → List Nat → Prop
  | .nil, l => l = []
  | .text s r, l => ∃ l', l = escL (tl s) ++ l' ∧ Ln r l'
  | .shw n r, l => ∃ g1 g2 l', Gq g1 ∧ Gq g2 ∧ l = [123] ++ g1 ++ tl n ++ g2 ++ [125] ++ l' ∧ Ln r l'
  | .num r, l => ∃ l', l = [35] ++ l' ∧ Ln r l'
  | .cho hd cs o r, l => ∃ h cl g5 g6 ol g7 l', Hl hd h ∧ Ln cs cl ∧ Gq1 g5 ∧ Gq1 g6 ∧ Ln o ol ∧ Gq g7 ∧ l = h ++ cl ++ g5 ++ tl "other" ++ g6 ++ [123] ++ ol ++ [125] ++ g7 ++ [125] ++ l' ∧ Ln r l'
  | .cas k m r, l => ∃ g5 g6 ml l', Gq1 g5 ∧ Gq1 g6 ∧ Ln m ml ∧ l = g5 ++ keyL k ++ g6 ++ [123] ++ ml ++ [125] ++ l' ∧ Ln r l'
/-- with the gaps that the law writes where it is told to write none of its own -/
def hdT : List V → List Nat
  | [.str x, .str n] => [123] ++ tl n ++ [44] ++ [32] ++ tl x ++ [44]
  | [.str x, .str n, .int off] => [123] ++ tl n ++ [44] ++ [32] ++ tl x ++ [44] ++ (if off = 0 then [] else [32] ++ offW off)
  | _ => []
def T.lw : T → List Nat
  | .nil => []
  | .text s r => escL (tl s) ++ r.lw
  | .shw n r => [123] ++ tl n ++ [125] ++ r.lw
  | .num r => [35] ++ r.lw
  | .cho hd cs o r => hdT hd ++ cs.lw ++ [32] ++ tl "other" ++ [32] ++ [123] ++ o.lw ++ [125] ++ [125] ++ r.lw
  | .cas k m r => [32] ++ keyL k ++ [32] ++ [123] ++ m.lw ++ [125] ++ r.lw
theorem lw_wr : ∀ {t : T} {c : Bool}, Wf t c → (c = false → t.lw = t.wr) ∧ (c = true → t.lw ++ [32] = [32] ++ t.wr)
  | .nil, c, _ => ⟨fun _ => rfl, fun _ => rfl⟩
  | .text s r, c, h => by
    refine ⟨fun e => ?_, fun e => by rw [h.1] at e; cases e⟩
    rw [T.lw, T.wr, (lw_wr h.2).1 e]
  | .shw n r, c, h => by
    refine ⟨fun e => ?_, fun e => by rw [h.1] at e; cases e⟩
    rw [T.lw, T.wr, (lw_wr h.2).1 e]
    rfl
  | .num r, c, h => by
    refine ⟨fun e => ?_, fun e => by rw [h.1] at e; cases e⟩
    rw [T.lw, T.wr, (lw_wr h.2).1 e]
    rfl
  | .cho hd cs o r, c, h => by
    refine ⟨fun e => ?_, fun e => by rw [h.1] at e; cases e⟩
    have i1 := (lw_wr h.2.2.1).2 rfl
    have i2 := (lw_wr h.2.2.2.1).1 rfl
    have i3 := (lw_wr h.2.2.2.2).1 e
    have a1 : tl "other {" = tl "other" ++ [32] ++ [123] := rfl
    have a2 : tl "}}" = [125] ++ [125] := rfl
    have a3 : tl ", " = [44] ++ [32] := rfl
    have a4 : tl "{" = [123] := rfl
    have a5 : tl " " = [32] := rfl
    have hh : hdT hd ++ [32] = hdL hd := by
      rcases h.2.1 with ⟨n, rfl⟩ | ⟨n, off, rfl⟩
      · simp [hdT, hdL, a3, a4]
      · by_cases e : off = 0
        · simp [hdT, hdL, a3, a4, e]
        · simp [hdT, hdL, a3, a4, a5, e, offW]
    have key : hdT hd ++ cs.lw ++ [32] = hdL hd ++ cs.wr := by
      rw [List.append_assoc, i1, ← List.append_assoc, hh]
    rw [T.lw, T.wr, key, i2, i3, a1, a2]
    simp
  | .cas k m r, c, h => by
    refine ⟨(fun e => by rw [h.1] at e; cases e), fun e => ?_⟩
    have i1 := (lw_wr h.2.2.1).1 rfl
    have i2 := (lw_wr h.2.2.2).2 h.1
    have a1 : tl " {" = [32] ++ [123] := rfl
    have a2 : tl "} " = [125] ++ [32] := rfl
    rw [T.lw, T.wr, i1, a1, a2, List.append_assoc _ r.lw, i2]
    simp
theorem ln_app {u : T} {l' : List Nat} (hu : Ln u l') : ∀ {t : T} {l : List Nat}, Ln t l → Ln (t.app u) (l ++ l')
  | .nil, l, h => by
    rw [show l = [] from h]
    exact hu
  | .text s r, l, h => by
    obtain ⟨a, rfl, h2⟩ := h
    exact ⟨a ++ l', by simp, ln_app hu h2⟩
  | .shw n r, l, h => by
    obtain ⟨g1, g2, a, h1, h2, rfl, h3⟩ := h
    exact ⟨g1, g2, a ++ l', h1, h2, by simp, ln_app hu h3⟩
  | .num r, l, h => by
    obtain ⟨a, rfl, h2⟩ := h
    exact ⟨a ++ l', by simp, ln_app hu h2⟩
  | .cho hd cs o r, l, h => by
    obtain ⟨hh, cl, g5, g6, ol, g7, a, h1, h2, h3, h4, h5, h6, rfl, h7⟩ := h
    exact ⟨hh, cl, g5, g6, ol, g7, a ++ l', h1, h2, h3, h4, h5, h6, by simp, ln_app hu h7⟩
  | .cas k m r, l, h => by
    obtain ⟨g5, g6, ml, a, h1, h2, h3, rfl, h4⟩ := h
    exact ⟨g5, g6, ml, a ++ l', h1, h2, h3, by simp, ln_app hu h4⟩
theorem lw_app (u : T) : ∀ t : T, (t.app u).lw = t.lw ++ u.lw
  | .nil => rfl
  | .text s r => by simp [T.app, T.lw, lw_app u r]
  | .shw n r => by simp [T.app, T.lw, lw_app u r]
  | .num r => by simp [T.app, T.lw, lw_app u r]
  | .cho hd cs o r => by simp [T.app, T.lw, lw_app u r]
  | .cas k m r => by simp [T.app, T.lw, lw_app u r]
theorem hl_len {hd : List V} {h : List Nat} (hs : HdS hd) (hl : Hl hd h) : h.length ≤ 60 := by
  have a3 : (tl "select").length = 6 := rfl
  have a4 : (tl "plural").length = 6 := rfl
  have a5 : (tl "offset:").length = 7 := rfl
  rcases hs with ⟨n, rfl, hn⟩ | ⟨n, off, rfl, hn, h0, h9⟩
  · obtain ⟨g1, g2, g3, g4, q1, q2, q3, q4, rfl⟩ := hl
    have b1 := q1.2
    have b2 := q2.2
    have b3 := q3.2
    have b4 := q4.2
    rw [len_tl'] at hn
    simp only [List.length_append, List.length_cons, List.length_nil]
    omega
  · obtain ⟨g1, g2, g3, g4, e, q1, q2, q3, q4, rfl, he⟩ := hl
    have b1 := q1.2
    have b2 := q2.2
    have b3 := q3.2
    have b4 := q4.2
    rw [len_tl'] at hn
    have hs := (show_len h0 (show off ≤ 999 by omega)).1
    rw [len_tl'] at hs
    have b5 : e.length ≤ 13 := by
      rcases he with ⟨_, rfl⟩ | ⟨_, g, hg, rfl⟩
      · exact Nat.zero_le _
      · have := hg.2
        simp only [offW, List.length_append]
        omega
    simp only [List.length_append, List.length_cons, List.length_nil]
    omega
theorem ln_len : ∀ {t : T} {l : List Nat}, Sm t → Ln t l → l.length ≤ 100 * t.sz
  | .nil, l, _, h => by
    rw [show l = [] from h]
    exact Nat.zero_le _
  | .text s r, l, m, h => by
    obtain ⟨a, rfl, h2⟩ := h
    have ih := ln_len m.2 h2
    have h1 := escL_len (tl s)
    have h3 := len_tl' s
    simp only [T.sz, List.length_append]
    omega
  | .shw n r, l, m, h => by
    obtain ⟨g1, g2, a, h1, h2, rfl, h3⟩ := h
    have ih := ln_len m.2 h3
    have b1 := h1.2
    have b2 := h2.2
    have hn := m.1
    rw [len_tl'] at hn
    simp only [T.sz, List.length_append, List.length_cons, List.length_nil]
    omega
  | .num r, l, m, h => by
    obtain ⟨a, rfl, h2⟩ := h
    have ih := ln_len (t := r) m h2
    simp only [T.sz, List.length_append, List.length_cons, List.length_nil]
    omega
  | .cho hd cs o r, l, m, h => by
    obtain ⟨hh, cl, g5, g6, ol, g7, a, h1, h2, h3, h4, h5, h6, rfl, h7⟩ := h
    have i1 := ln_len m.2.1 h2
    have i2 := ln_len m.2.2.1 h5
    have i3 := ln_len m.2.2.2 h7
    have b1 := hl_len m.1 h1
    have b3 := h3.2
    have b4 := h4.2
    have b6 := h6.2
    have a1 : (tl "other").length = 5 := rfl
    simp only [T.sz, List.length_append, List.length_cons, List.length_nil]
    omega
  | .cas k m r, l, s, h => by
    obtain ⟨g5, g6, ml, a, h1, h2, h3, rfl, h4⟩ := h
    have i1 := ln_len s.2.1 h3
    have i2 := ln_len s.2.2 h4
    have b1 := h1.2
    have b2 := h2.2
    have b3 := keyL_len s.1
    simp only [T.sz, List.length_append, List.length_cons, List.length_nil]
    omega
/-- a chain of cases -/
def cch : List (V × T) → T
  | [] => .nil
  | q :: r => .cas q.1 q.2 (cch r)
theorem cch_app (q : V × T) : ∀ ks : List (V × T), cch (ks ++ [q]) = (cch ks).app (.cas q.1 q.2 .nil)
  | [] => rfl
  | a :: r => by
    show T.cas a.1 a.2 (cch (r ++ [q])) = T.cas a.1 a.2 ((cch r).app _)
    rw [cch_app q r]
theorem cas_ch {H : Hp} : ∀ {cs : T} {cvs : List V}, Nodes H cs cvs → Wf cs true → Sm cs → ∃ ks : List (V × T), cs = cch ks ∧ ks.length = cvs.length ∧ (∀ q ∈ ks, q.2.dep ≤ cs.dep ∧ q.2.sz ≤ cs.sz) ∧
    ∀ (i : Nat) (v : V), cvs[i]? = some v → ∃ (q : V × T) (a b : Addr), ks[i]? = some q ∧ v = .ref a ∧ H a = some (.tup [q.1, .ref b]) ∧ At H b q.2 ∧ Wf q.2 false ∧ Sm q.2 ∧ KeyS q.1
  | .nil, _, h, _, _ => ⟨[], rfl, by rw [show _ = [] from h]; rfl, (fun q hq => by cases hq), fun i v e => by rw [show _ = [] from h] at e; simp at e⟩
  | .text s r, _, _, w, _ => by cases w.1
  | .shw s r, _, _, w, _ => by cases w.1
  | .num r, _, _, w, _ => by cases w.1
  | .cho hd cs o r, _, _, w, _ => by cases w.1
  | .cas k m r, _, h, w, s => by
    obtain ⟨p, ws, ma, mvs, rfl, hp, hm, hms, hr⟩ := h
    obtain ⟨ks, e0, e1, e2, e3⟩ := cas_ch hr w.2.2.2 s.2.2
    refine ⟨(k, m) :: ks, by rw [e0]; rfl, congrArg (· + 1) e1, fun q hq => ?_, fun i v e => ?_⟩
    · rcases List.mem_cons.mp hq with rfl | hq
      · simp only [T.dep, T.sz]
        omega
      · have := e2 q hq
        simp only [T.dep, T.sz]
        omega
    · cases i with
      | zero =>
        have : V.ref p = v := by simpa using e
        subst this
        exact ⟨(k, m), p, ma, rfl, rfl, hp, ⟨mvs, hm, hms⟩, w.2.2.1, s.2.1, s.1⟩
      | succ i =>
        obtain ⟨q, a, b, h1, h2⟩ := e3 i v (by simpa using e)
        exact ⟨q, a, b, by simpa using h1, h2⟩
end Mw

namespace Mw
open PySem L2
def szs (us : List T) : Nat := (us.map T.sz).sum
theorem szs_append (us vs : List T) : szs (us ++ vs) = szs us + szs vs := by
  unfold szs
  rw [List.map_append, List.sum_append]
theorem szs_nodes : ∀ t : T, szs t.nodes = t.sz
  | .nil => rfl
  | .text s r => by have := szs_nodes r; simp only [szs, T.nodes, T.sz, List.map_cons, List.sum_cons] at *; omega
  | .shw s r => by have := szs_nodes r; simp only [szs, T.nodes, T.sz, List.map_cons, List.sum_cons] at *; omega
  | .num r => by have := szs_nodes r; simp only [szs, T.nodes, T.sz, List.map_cons, List.sum_cons] at *; omega
  | .cho _ cs o r => by have := szs_nodes r; simp only [szs, T.nodes, T.sz, List.map_cons, List.sum_cons] at *; omega
  | .cas _ m r => by have := szs_nodes r; simp only [szs, T.nodes, T.sz, List.map_cons, List.sum_cons] at *; omega
theorem szs_take (l : List T) (i : Nat) : szs (l.take i) ≤ szs l := by
  have := szs_append (l.take i) (l.drop i)
  rw [List.take_append_drop] at this
  omega
theorem ch_sz : ∀ us : List T, (ch us).sz = szs us
  | [] => rfl
  | u :: us => by
    rw [show ch (u :: us) = u.app (ch us) from rfl, T.app_sz, ch_sz us]
    rfl
theorem ch_take_sz (t : T) (i : Nat) : (ch (t.nodes.take i)).sz ≤ t.sz := by
  rw [ch_sz]
  have := szs_take t.nodes i
  rw [szs_nodes] at this
  exact this
theorem sm_app {u : T} (hu : Sm u) : ∀ {t : T}, Sm t → Sm (t.app u)
  | .nil, _ => hu
  | .text s r, h => ⟨h.1, sm_app hu h.2⟩
  | .shw s r, h => ⟨h.1, sm_app hu h.2⟩
  | .num r, h => sm_app (t := r) hu h
  | .cho hd cs o r, h => ⟨h.1, h.2.1, h.2.2.1, sm_app hu h.2.2.2⟩
  | .cas k m r, h => ⟨h.1, h.2.1, sm_app hu h.2.2⟩
theorem sm_nodes : ∀ {t : T}, Sm t → ∀ u ∈ t.nodes, Sm u
  | .nil, _, u, h => by cases h
  | .text s r, m, u, h => by
    rcases List.mem_cons.mp h with rfl | h
    · exact ⟨m.1, trivial⟩
    · exact sm_nodes m.2 u h
  | .shw s r, m, u, h => by
    rcases List.mem_cons.mp h with rfl | h
    · exact ⟨m.1, trivial⟩
    · exact sm_nodes m.2 u h
  | .num r, m, u, h => by
    rcases List.mem_cons.mp h with rfl | h
    · exact trivial
    · exact sm_nodes (t := r) m u h
  | .cho hd cs o r, m, u, h => by
    rcases List.mem_cons.mp h with rfl | h
    · exact ⟨m.1, m.2.1, m.2.2.1, trivial⟩
    · exact sm_nodes m.2.2.2 u h
  | .cas k mm r, m, u, h => by
    rcases List.mem_cons.mp h with rfl | h
    · exact ⟨m.1, m.2.1, trivial⟩
    · exact sm_nodes m.2.2 u h
theorem sm_ch : ∀ {us : List T}, (∀ u ∈ us, Sm u) → Sm (ch us)
  | [], _ => trivial
  | u :: us, h => sm_app (sm_ch fun x hx => h x (List.mem_cons_of_mem _ hx)) (h u List.mem_cons_self)
theorem cch_take : ∀ (ks : List (V × T)) (j : Nat), Sm (cch ks) → Sm (cch (ks.take j)) ∧ (cch (ks.take j)).sz ≤ (cch ks).sz
  | [], j, _ => by
    rw [List.take_nil]
    exact ⟨trivial, Nat.le_refl _⟩
  | q :: r, 0, _ => ⟨trivial, Nat.zero_le _⟩
  | q :: r, j + 1, h => by
    obtain ⟨i1, i2⟩ := cch_take r j h.2.2
    refine ⟨⟨h.1, h.2.1, i1⟩, ?_⟩
    show 1 + q.2.sz + (cch (r.take j)).sz ≤ 1 + q.2.sz + (cch r).sz
    omega
/-- what has been written: with gaps, or tight -/
def Lw (lo : Bool) (t : T) (l : List Nat) : Prop := Ln t l ∧ (lo = false → l = t.lw)
theorem Lw.app {lo : Bool} {t u : T} {l l' : List Nat} (h : Lw lo t l) (h' : Lw lo u l') : Lw lo (t.app u) (l ++ l') :=
  ⟨ln_app h'.1 h.1, fun e => by rw [h.2 e, h'.2 e, lw_app]⟩
/-- how far the cases of a choice are written -/
def Cj (lo : Bool) (cs o : T) (ks : List (V × T)) (j : Nat) (cl : List Nat) : Prop :=
  (j ≤ ks.length ∧ Lw lo (cch (ks.take j)) cl) ∨
    (j = ks.length + 1 ∧ ∃ cl0 g5 g6 ol, Lw lo cs cl0 ∧ Gq1 g5 ∧ Gq1 g6 ∧ Lw lo o ol ∧ cl = cl0 ++ g5 ++ tl "other" ++ g6 ++ [123] ++ ol ++ [125] ∧ (lo = false → g5 = [32] ∧ g6 = [32]))
theorem up_go {B : Addr} {H0 H H' : Hp} (s : Same H0 H) (hB : H0 B = none) (g : Go B H H') : Same H0 H' := fun b o h => g.ext b o (by rintro rfl; rw [hB] at h; cases h) (s b o h)
theorem ch_tk {us : List T} {i : Nat} {u : T} (h : us[i]? = some u) : ch (us.take (i + 1)) = (ch (us.take i)).app u := by
  induction us generalizing i with
  | nil => simp at h
  | cons a r ih =>
    cases i with
    | zero =>
      have : a = u := by simpa using h
      subst this
      show a.app (ch []) = (ch []).app a
      show a.app .nil = T.app .nil a
      rw [app_nil]
      rfl
    | succ i =>
      have e := ih (i := i) (by simpa using h)
      show a.app (ch (r.take (i + 1))) = (a.app (ch (r.take i))).app u
      rw [e, app_assoc]
section
variable {P : Program} {w : World} {K : PySem.W.Frag} {mg : Str → Option Value} {base : Heap}
abbrev sWr : Stmt := top 39
theorem scWr : FnScope ["box", "message", "loose", "found", "node", "key", "inner", "shown"] ["box", "message", "loose"] (defScope sWr) := ⟨rfl, rfl, rfl, by decide +kernel, rfl, by decide +kernel, by decide +kernel⟩
def spWr (n : Nat) : Sp := fun vs H Q _ => ∃ (B d a : Addr) (lo : Bool) (H0 : Hp) (t : T), vs = [.ref B, .ref a, .bl lo] ∧ Box H B d ∧ Same H0 H ∧ H0 B = none ∧ At H0 a t ∧ Wf t false ∧ Sm t ∧ t.dep < n ∧ t.sz < 30000 ∧
  ∀ l H', Lw lo t l → Go B H H' → Box H' B d → Q (.str (mkS l)) H'
theorem ok_wr_turn {n m : Nat} (h2m : 2 ≤ m) {f fE fG fO : Addr} {fd fdE fdG fdO : FuncData} (F : Fun K "_law_written" "_law_written" sWr f fd) (G : FnOk P w K mg base CX0 m f fd ["box", "message", "loose"] (spWr n)) (b : Binds K fd ["box", "message", "loose"] []) (mf : mg "_law_written" = some (.ref f))
    (GE : FnOk P w K mg base CX0 1 fE fdE ["text"] spEsc) (bE : Binds K fdE ["text"] []) (kE : PySem.W.keepIn K (.ref fE) = true) (mE : mg "_law_escaped" = some (.ref fE))
    (GG : FnOk P w K mg base CX0 2 fG fdG ["box", "loose"] spGap) (bG : Binds K fdG ["box", "loose"] []) (kG : PySem.W.keepIn K (.ref fG) = true) (mG : mg "_law_gap" = some (.ref fG))
    (GO : FnOk P w K mg base CX0 2 fO fdO ["box", "loose"] spOne) (bO : Binds K fdO ["box", "loose"] []) (kO : PySem.W.keepIn K (.ref fO) = true) (mO : mg "_law_one_gap" = some (.ref fO))
    (mi : mg "isinstance" = none) (ms : mg "str" = none) : FnOk P w K mg base CX0 (m + 1) f fd ["box", "message", "loose"] (spWr (n + 1)) := by
  refine F.ok scWr (fun vs H Q E h => ?_) (fun cdv A outer s H vs Q E hr h => ?_)
  · obtain ⟨B, d, a, lo, H0, t, rfl, _⟩ := h
    rfl
  obtain ⟨B, d, a, lo, H0, t, rfl, hb, h0, hB, ⟨vs, ha, hn⟩, hw, hsm, hd, hz, q⟩ := h
  have nd := scWr.nd
  have k := F.kp
  have hr1 : Room 1 _ := hr.mono (Nat.le_trans (by decide) h2m)
  have hr2 : Room 2 _ := hr.mono h2m
  refine ⟨_, pss_cons (ps_set (i := 3) nd rfl (.inl rfl) pe_str)
    (pss_cons (ps_for PassesOwn.never rfl (pi_list (pv 1)) (pg_name (i := 4) nd rfl (.inl rfl))
      (pss_one (ps_if (pt_cmpR op_eq (pe_ix ix_tup (pv 4) pe_int (fun _ _ => rfl)) pe_str (nomark _))
        (pss_one (ps_set (i := 3) nd rfl (.inl rfl) (pe_op op_add_str (pv 3) (pe_call GE hr1 rfl mE kE bE .nil pass0 (pa_cons (pe_ix ix_tup (pv 4) pe_int (fun _ _ => rfl)) pa_nil)))))
      (pss_one (ps_if (pt_cmpR op_eq (pe_ix ix_tup (pv 4) pe_int (fun _ _ => rfl)) pe_str (nomark _))
        (pss_one (ps_set (i := 3) nd rfl (.inl rfl) (pe_op op_add_str (pe_op op_add_str (pe_op op_add_str (pe_op op_add_str (pe_op op_add_str (pv 3) pe_str) (pe_call GG hr2 rfl mG kG bG .nil pass0 (pa_cons (pv 0) (pa_cons (pv 2) pa_nil)))) (pe_ix ix_tup (pv 4) pe_int (fun _ _ => rfl))) (pe_call GG hr2 rfl mG kG bG .nil pass0 (pa_cons (pv 0) (pa_cons (pv 2) pa_nil)))) pe_str)))
      (pss_one (ps_if (pt_cmpR op_eq (pe_ix ix_tup (pv 4) pe_int (fun _ _ => rfl)) pe_str (nomark _))
        (pss_one (ps_set (i := 3) nd rfl (.inl rfl) (pe_op op_add_str (pv 3) pe_str)))
      (pss_cons (ps_set (i := 3) nd rfl (.inl rfl) (pe_op op_add_str (pe_op op_add_str (pe_op op_add_str (pe_op op_add_str (pe_op op_add_str (pv 3) pe_str) (pe_call GG hr2 rfl mG kG bG .nil pass0 (pa_cons (pv 0) (pa_cons (pv 2) pa_nil)))) (pe_ix ix_tup (pv 4) pe_int (fun _ _ => rfl))) (pe_call GG hr2 rfl mG kG bG .nil pass0 (pa_cons (pv 0) (pa_cons (pv 2) pa_nil)))) pe_str))
      (pss_cons (ps_set (i := 3) nd rfl (.inl rfl) (pe_op op_add_str (pe_op op_add_str (pe_op op_add_str (pe_op op_add_str (pv 3) (pe_call GO hr2 rfl mO kO bO .nil pass0 (pa_cons (pv 0) (pa_cons (pv 2) pa_nil)))) (pe_ix ix_tup (pv 4) pe_int (fun _ _ => rfl))) (pe_call GG hr2 rfl mG kG bG .nil pass0 (pa_cons (pv 0) (pa_cons (pv 2) pa_nil)))) pe_str))
      (Evl.pss_cut (ps_if (PW.pt (pw_and (pt_cmpR op_eq (pe_ix ix_tup (pv 4) pe_int (fun _ _ => rfl)) pe_str (nomark _)) (pw_and1 (pt_cmpR op_gt (pe_ix ix_tup (pv 4) pe_int (fun _ _ => rfl)) pe_int (nomark _)))))
        (pss_one (ps_set (i := 3) nd rfl (.inl rfl) (pe_op op_add_str (pe_op op_add_str (pe_op op_add_str (pv 3) (pe_call GO hr2 rfl mO kO bO .nil pass0 (pa_cons (pv 0) (pa_cons (pv 2) pa_nil)))) pe_str) (pe_callTy call_str_int (by rfl) ms (by decide +kernel) (pa_cons (pe_ix ix_tup (pv 4) pe_int (fun _ _ => rfl)) pa_nil))))) pss_nil)
      (pss_cons (ps_for PassesOwn.never rfl (pi_list (pe_op op_cat (pe_ix ix_tup (pv 4) (pe_un un_neg pe_int) (fun _ _ => rfl)) (pe_lst (pa_cons (pe_tup (pa_cons pe_str (pa_cons (pe_ix ix_tup (pv 4) (pe_un un_neg pe_int) (fun _ _ => rfl)) pa_nil))) pa_nil)))) (pg_tup rfl (pgs_cons (pg_name (i := 5) nd rfl (.inl rfl)) (pgs_cons (pg_name (i := 6) nd rfl (.inl rfl)) pgs_nil)))
        (pss_cons (ps_set (i := 7) nd rfl (.inl rfl) (pv 5))
        (Evl.pss_cut (ps_if (pt_not (pt_val (pe_callB call_isi (by rfl) mi (by decide +kernel) (pa_cons (pv 5) (pa_cons (pe_bltn (v := .ty "str") (by rfl) ms (by decide +kernel) rfl) pa_nil)))))
          (pss_one (ps_set (i := 7) nd rfl (.inl rfl) (pe_op op_add_str pe_str (pe_callTy call_str_int (by rfl) ms (by decide +kernel) (pa_cons (pv 5) pa_nil))))) pss_nil)
        (pss_one (ps_set (i := 3) nd rfl (.inl rfl) (pe_op op_add_str (pe_op op_add_str (pe_op op_add_str (pe_op op_add_str (pe_op op_add_str (pe_op op_add_str (pv 3) (pe_call GO hr2 rfl mO kO bO .nil pass0 (pa_cons (pv 0) (pa_cons (pv 2) pa_nil)))) (pv 7)) (pe_call GO hr2 rfl mO kO bO .nil pass0 (pa_cons (pv 0) (pa_cons (pv 2) pa_nil)))) pe_str)
          (pe_call G hr rfl mf k b .nil pass0 (pa_cons (pv 0) (pa_cons (pv 6) (pa_cons (pv 2) pa_nil))))) pe_str))))))
      (pss_one (ps_set (i := 3) nd rfl (.inl rfl) (pe_op op_add_str (pe_op op_add_str (pv 3) (pe_call GG hr2 rfl mG kG bG .nil pass0 (pa_cons (pv 0) (pa_cons (pv 2) pa_nil)))) pe_str))))))))))))))
    (pss_one (ps_ret (pv 3)))), ?_⟩
  have hns := hn.ns
  have hae : H a = some (.lst vs) := h0 _ _ ha
  have l1a : ("{" : Str).length = 1 := rfl
  have l1b : ("}" : Str).length = 1 := rfl
  have l1c : ("," : Str).length = 1 := rfl
  have l1d : ("#" : Str).length = 1 := rfl
  refine ⟨_, rfl, a, rfl, ⟨_, SqL.of hae⟩, for_list (K := K) (a := a) (xs := vs) (fun i σ H' => ∃ (l : List Nat) (o4 o5 o6 o7 : Option V), σ = [some (.ref B), some (.ref a), some (.bl lo), some (.str (mkS l)), o4, o5, o6, o7] ∧ Go B H H' ∧ Box H' B d ∧ Lw lo (ch (t.nodes.take i)) l)
    ⟨[], none, none, none, none, rfl, Go.refl B H, hb, rfl, fun _ => rfl⟩ (fun i σ H' _ ⟨_, _, _, _, _, _, g, _⟩ => SqL.of (up_go h0 hB g _ _ ha)) ?_ ?_⟩
  · rintro i x σ H' hx ⟨l, o4, o5, o6, o7, rfl, g, hb', hL⟩
    obtain ⟨u, hu, hun⟩ := hns.get hx
    have um : u ∈ t.nodes := List.mem_of_getElem? hu
    have uw : Wf u false := nodes_wf hw u um
    have us : Sm u := sm_nodes hsm u um
    have ud := dep_nodes u um
    have uz := sz_nodes u um
    have hll : l.length ≤ 3000000 := by
      have z1 := ln_len (sm_ch fun x hx => sm_nodes hsm x (List.mem_of_mem_take hx)) hL.1
      have z2 := ch_take_sz t i
      omega
    have fin : ∀ (ul : List Nat), Lw lo u ul → Lw lo (ch (t.nodes.take (i + 1))) (l ++ ul) := fun ul hul => by
      rw [ch_tk hu]
      exact hL.app hul
    cases u with
    | nil => cases (show [x] = [] from hun)
    | cas k m r => cases uw.1
    | text st r =>
      obtain ⟨p, ws, e, hp, hr'⟩ := hun
      cases e
      have er : r = .nil := by
        have := hr'.length
        cases r <;> first | rfl | (simp [T.len] at this)
      subst er
      have hp' := up_go h0 hB g _ _ hp
      have h3 := escL_len (tl st)
      have h4 := us.1
      rw [len_tl'] at h4
      refine ⟨_, rfl, p, _, 0, .str "text", rfl, rfl, .inl (.inl hp'), atI_nat (j := 0) rfl, rfl, _, rfl, iteT ?_⟩
      refine ⟨_, rfl, _, rfl, p, _, 1, .str st, rfl, rfl, .inl (.inl hp'), atI_nat (j := 1) rfl, st, rfl, us.1, fun H2 s2 => ⟨_, _, rfl, rfl, le_line (by rw [mk_len, mk_len]; omega), ?_⟩⟩
      refine ⟨l ++ escL (tl st), some (.ref p), o5, o6, o7, ?_, g.trans (Go.same s2), hb'.same s2, fin _ ⟨⟨[], by simp, rfl⟩, fun _ => by simp [T.lw]⟩⟩
      rw [← mk_app]
      rfl
    | num r =>
      obtain ⟨p, ws, e, hp, hr'⟩ := hun
      cases e
      have er : r = .nil := by
        have := hr'.length
        cases r <;> first | rfl | (simp [T.len] at this)
      subst er
      have hp' := up_go h0 hB g _ _ hp
      refine ⟨_, rfl, p, _, 0, .str "number", rfl, rfl, .inl (.inl hp'), atI_nat (j := 0) rfl, rfl, _, rfl, iteF ?_⟩
      refine ⟨_, rfl, p, _, 0, .str "number", rfl, rfl, .inl (.inl hp'), atI_nat (j := 0) rfl, rfl, _, rfl, iteF ?_⟩
      refine ⟨_, rfl, p, _, 0, .str "number", rfl, rfl, .inl (.inl hp'), atI_nat (j := 0) rfl, rfl, _, rfl, iteT ?_⟩
      refine ⟨_, rfl, _, _, rfl, rfl, le_line (by rw [mk_len]; omega), ?_⟩
      refine ⟨l ++ [35], some (.ref p), o5, o6, o7, ?_, g, hb', fin _ ⟨⟨[], by simp, rfl⟩, fun _ => by simp [T.lw]⟩⟩
      have : mkS l ++ ("#" : Str) = mkS (l ++ [35]) := mk_app _ _
      rw [← this]
      rfl
    | shw n r =>
      obtain ⟨p, ws, e, hp, hr'⟩ := hun
      cases e
      have er : r = .nil := by
        have := hr'.length
        cases r <;> first | rfl | (simp [T.len] at this)
      subst er
      have hp' := up_go h0 hB g _ _ hp
      have h4 := us.1
      refine ⟨_, rfl, p, _, 0, .str "show", rfl, rfl, .inl (.inl hp'), atI_nat (j := 0) rfl, rfl, _, rfl, iteF ?_⟩
      refine ⟨_, rfl, p, _, 0, .str "show", rfl, rfl, .inl (.inl hp'), atI_nat (j := 0) rfl, rfl, _, rfl, iteT ?_⟩
      refine ⟨_, rfl, _, _, rfl, rfl, le_line (by rw [mk_len]; omega), _, rfl, _, rfl, B, d, lo, rfl, hb', fun g1 H2 q1 k1 e1 gg1 hb2 => ?_⟩
      have hp2 := up_go h0 hB (g.trans gg1) _ _ hp
      refine ⟨_, _, rfl, rfl, le_line (by rw [sl, mk_len]; omega), _, rfl, p, _, 1, .str n, rfl, rfl, .inl (.inl hp2), atI_nat (j := 1) rfl, _, _, rfl, rfl, le_line (by rw [sl, sl, mk_len]; omega), _, rfl, _, rfl, B, d, lo, rfl, hb2, fun g2 H3 q2 k2 e2 gg2 hb3 => ?_⟩
      refine ⟨_, _, rfl, rfl, le_line (by rw [sl, sl, sl, mk_len]; omega), _, _, rfl, rfl, le_line (by rw [sl, sl, sl, sl, mk_len]; omega), ?_⟩
      refine ⟨l ++ ([123] ++ tl g1 ++ tl n ++ tl g2 ++ [125]), some (.ref p), o5, o6, o7, ?_, (g.trans gg1).trans gg2, hb3, fin _ ⟨⟨tl g1, tl g2, [], ⟨q1, by rw [← len_tl']; exact k1⟩, ⟨q2, by rw [← len_tl']; exact k2⟩, by simp, rfl⟩, fun e => ?_⟩⟩
      · have : mkS l ++ ("{" : Str) ++ g1 ++ n ++ g2 ++ ("}" : Str) = mkS (l ++ ([123] ++ tl g1 ++ tl n ++ tl g2 ++ [125])) := by
          refine TL.ext_tl ?_
          rw [TL.tl_append, TL.tl_append, TL.tl_append, TL.tl_append, TL.tl_append]
          show ((((l ++ [123]) ++ tl g1) ++ tl n) ++ tl g2) ++ [125] = l ++ ([123] ++ tl g1 ++ tl n ++ tl g2 ++ [125])
          simp
        rw [← this]
        rfl
      · rw [e1 e, e2 e]
        simp [T.lw, tl_mk]
    | cho hd cs o r =>
      obtain ⟨p, ws, ca, cvs, oa, ovs, e, hp, hc, hcs, ho, hos, hr'⟩ := hun
      cases e
      have er : r = .nil := by
        have := hr'.length
        cases r <;> first | rfl | (simp [T.len] at this)
      subst er
      have hp' := up_go h0 hB g _ _ hp
      obtain ⟨_, wcs, wo, _⟩ := uw.2
      obtain ⟨hh, scs, so, _⟩ := us
      simp only [T.dep] at ud
      simp only [T.sz] at uz
      obtain ⟨x, n', rest, rfl, hx, hnl⟩ : ∃ (x n : Str) (rest : List V), hd = .str x :: .str n :: rest ∧ (x = "select" ∨ x = "plural") ∧ n.length ≤ 20 := by
        rcases hh with ⟨n, rfl, hn⟩ | ⟨n, off, rfl, hn, _⟩
        · exact ⟨"select", n, [], rfl, .inl rfl, hn⟩
        · exact ⟨"plural", n, _, rfl, .inr rfl, hn⟩
      have hxl : x.length = 6 := by rcases hx with rfl | rfl <;> rfl
      have t1 : decide (V.str x = V.str "text") = false := by rcases hx with rfl | rfl <;> decide
      have t2 : decide (V.str x = V.str "show") = false := by rcases hx with rfl | rfl <;> decide
      have t3 : decide (V.str x = V.str "number") = false := by rcases hx with rfl | rfl <;> decide
      refine ⟨_, rfl, p, _, 0, .str x, rfl, rfl, .inl (.inl hp'), atI_nat (j := 0) rfl, rfl, _, rfl, ?_⟩
      rw [t1]
      refine iteF ⟨_, rfl, p, _, 0, .str x, rfl, rfl, .inl (.inl hp'), atI_nat (j := 0) rfl, rfl, _, rfl, ?_⟩
      rw [t2]
      refine iteF ⟨_, rfl, p, _, 0, .str x, rfl, rfl, .inl (.inl hp'), atI_nat (j := 0) rfl, rfl, _, rfl, ?_⟩
      rw [t3]
      refine iteF ?_
      -- the head
      refine ⟨_, rfl, _, _, rfl, rfl, le_line (by simp only [sl, mk_len]; omega), _, rfl, _, rfl, B, d, lo, rfl, hb', fun g1 H2 q1 k1 e1 gg1 hb2 => ?_⟩
      have hp2 := up_go h0 hB (g.trans gg1) _ _ hp
      refine ⟨_, _, rfl, rfl, le_line (by simp only [sl, mk_len]; omega), _, rfl, p, _, 1, .str n', rfl, rfl, .inl (.inl hp2), atI_nat (j := 1) rfl, _, _, rfl, rfl, le_line (by simp only [sl, mk_len]; omega), _, rfl, _, rfl, B, d, lo, rfl, hb2, fun g2 H3 q2 k2 e2 gg2 hb3 => ?_⟩
      refine ⟨_, _, rfl, rfl, le_line (by simp only [sl, mk_len]; omega), _, _, rfl, rfl, le_line (by simp only [sl, mk_len]; omega), ?_⟩
      refine ⟨_, rfl, _, rfl, _, rfl, B, d, lo, rfl, hb3, fun g3 H4 q3 k3 e3 gg3 hb4 => ?_⟩
      have G4 := ((g.trans gg1).trans gg2).trans gg3
      have hp4 := up_go h0 hB G4 _ _ hp
      refine ⟨_, _, rfl, rfl, le_line (by simp only [sl, mk_len]; omega), _, rfl, p, _, 0, .str x, rfl, rfl, .inl (.inl hp4), atI_nat (j := 0) rfl, _, _, rfl, rfl, le_line (by simp only [sl, mk_len]; omega), _, rfl, _, rfl, B, d, lo, rfl, hb4, fun g4 H5 q4 k4 e4 gg4 hb5 => ?_⟩
      refine ⟨_, _, rfl, rfl, le_line (by simp only [sl, mk_len]; omega), _, _, rfl, rfl, le_line (by simp only [sl, mk_len]; omega), ?_⟩
      have G5 := G4.trans gg4
      have hp5 := up_go h0 hB G5 _ _ hp
      have eh : mkS l ++ ("{" : Str) ++ g1 ++ n' ++ g2 ++ ("," : Str) ++ g3 ++ x ++ g4 ++ ("," : Str) = mkS (l ++ ([123] ++ tl g1 ++ tl n' ++ tl g2 ++ [44] ++ tl g3 ++ tl x ++ tl g4 ++ [44])) := by
        refine TL.ext_tl ?_
        simp only [TL.tl_append]
        show ((((((((l ++ [123]) ++ tl g1) ++ tl n') ++ tl g2) ++ [44]) ++ tl g3) ++ tl x) ++ tl g4) ++ [44] = l ++ ([123] ++ tl g1 ++ tl n' ++ tl g2 ++ [44] ++ tl g3 ++ tl x ++ tl g4 ++ [44])
        simp
      rw [eh]
      have Q1 : Gq (tl g1) := ⟨q1, by rw [← len_tl']; exact k1⟩
      have Q2 : Gq (tl g2) := ⟨q2, by rw [← len_tl']; exact k2⟩
      have Q3 : Gq1 (tl g3) := ⟨q3, by rw [← len_tl']; exact k3⟩
      have Q4 : Gq (tl g4) := ⟨q4, by rw [← len_tl']; exact k4⟩
      refine ⟨fun σ' H6 => ∃ (h : List Nat) (o5 o6 o7 : Option V), σ' = [some (.ref B), some (.ref a), some (.bl lo), some (.str (mkS (l ++ h))), some (.ref p), o5, o6, o7] ∧ Go B H H6 ∧ Box H6 B d ∧ Hl (.str x :: .str n' :: rest) h ∧ (lo = false → h = hdT (.str x :: .str n' :: rest)), ?_, ?_⟩
      · have tight : lo = false → [123] ++ tl g1 ++ tl n' ++ tl g2 ++ [44] ++ tl g3 ++ tl x ++ tl g4 ++ [44] = [123] ++ tl n' ++ [44] ++ [32] ++ tl x ++ [44] := fun e => by
          rw [e1 e, e2 e, e3 e, e4 e]
          simp [tl_mk]
        refine ⟨_, rfl, p, _, 0, .str x, rfl, rfl, .inl (.inl hp5), atI_nat (j := 0) rfl, rfl, _, rfl, ?_⟩
        rcases hh with ⟨n, e, _⟩ | ⟨n, off, e, _, f0, f9⟩
        · cases e
          refine iteF (iteF ?_)
          exact ⟨_, o5, o6, o7, rfl, G5, hb5, ⟨_, _, _, _, Q1, Q2, Q3, Q4, rfl⟩, tight⟩
        · cases e
          refine iteT ⟨_, rfl, p, _, 2, .int off, rfl, rfl, .inl (.inl hp5), atI_nat (j := 2) rfl, _, _, rfl, rfl, _, rfl, ?_⟩
          by_cases hz0 : off = 0
          · subst hz0
            refine iteF ?_
            exact ⟨_, o5, o6, o7, rfl, G5, hb5, ⟨_, _, _, _, [], Q1, Q2, Q3, Q4, (List.append_nil _).symm, .inl ⟨rfl, rfl⟩⟩, fun e => by rw [tight e]; simp [hdT]⟩
          · have hpos : (decide ((0 : Int) < off)) = true := decide_eq_true (by omega)
            rw [hpos]
            obtain ⟨hsl, hsg⟩ := show_len f0 (show off ≤ 999 by omega)
            have lof : ("offset:" : Str).length = 7 := rfl
            have lq1 := k1
            have hbig : ([123] ++ tl g1 ++ tl n' ++ tl g2 ++ [44] ++ tl g3 ++ tl ("plural" : Str) ++ tl g4 ++ [44]).length ≤ 60 := by
              have z1 := Q1.2
              have z2 := Q2.2
              have z3 := Q3.2
              have z4 := Q4.2
              have z5 : (tl ("plural" : Str)).length = 6 := rfl
              have z6 := hnl
              rw [len_tl'] at z6
              simp only [List.length_append, List.length_cons, List.length_nil]
              omega
            refine iteT ⟨_, rfl, _, rfl, _, rfl, B, d, lo, rfl, hb5, fun g5 H6 q5 k5 e5 gg5 hb6 => ?_⟩
            have hp6 := up_go h0 hB (G5.trans gg5) _ _ hp
            have hb1 : ∀ {b c : List Nat}, b.length ≤ 60 → (mkS (l ++ b)).length ≤ 3000060 := fun hb => by
              rw [mk_len, List.length_append]
              omega
            have hB1 := hb1 (c := []) hbig
            refine ⟨_, _, rfl, rfl, le_line (by omega), _, _, rfl, rfl, le_line (by rw [sl]; omega), _, rfl, p, _, 2, .int off, rfl, rfl, .inl (.inl hp6), atI_nat (j := 2) rfl, off, rfl, hsg, _, _, rfl, rfl, le_line (by rw [sl, sl]; omega), ?_⟩
            refine ⟨[123] ++ tl g1 ++ tl n' ++ tl g2 ++ [44] ++ tl g3 ++ tl ("plural" : Str) ++ tl g4 ++ [44] ++ (tl g5 ++ offW off), o5, o6, o7, ?_, G5.trans gg5, hb6, ⟨_, _, _, _, tl g5 ++ offW off, Q1, Q2, Q3, Q4, rfl, .inr ⟨hz0, tl g5, ⟨q5, by rw [← len_tl']; exact k5⟩, rfl⟩⟩, fun e => ?_⟩
            · have eo : mkS (l ++ ([123] ++ tl g1 ++ tl n' ++ tl g2 ++ [44] ++ tl g3 ++ tl ("plural" : Str) ++ tl g4 ++ [44])) ++ g5 ++ ("offset:" : Str) ++ (toString off : Str) = mkS (l ++ ([123] ++ tl g1 ++ tl n' ++ tl g2 ++ [44] ++ tl g3 ++ tl ("plural" : Str) ++ tl g4 ++ [44] ++ (tl g5 ++ offW off))) := by
                refine TL.ext_tl ?_
                simp only [TL.tl_append]
                show (((l ++ ([123] ++ tl g1 ++ tl n' ++ tl g2 ++ [44] ++ tl g3 ++ tl ("plural" : Str) ++ tl g4 ++ [44])) ++ tl g5) ++ tl "offset:") ++ tl (toString off : Str) = l ++ ([123] ++ tl g1 ++ tl n' ++ tl g2 ++ [44] ++ tl g3 ++ tl ("plural" : Str) ++ tl g4 ++ [44] ++ (tl g5 ++ (tl "offset:" ++ tl (toString off : Str))))
                simp
              rw [← eo]
              rfl
            · rw [tight e, e5 e]
              simp [hdT, hz0, tl_mk]
      rintro σ' H6 ⟨h, o5, o6, o7, rfl, G6, hb6, hH, hT⟩
      have hp6 := up_go h0 hB G6 _ _ hp
      have hc6 := up_go h0 hB G6 _ _ hc
      obtain ⟨ks, hks, hkl, hkd, hki⟩ := cas_ch hcs wcs scs
      have hhl := hl_len hh hH
      have hclen : cvs.length < 1000000 := by
        have := hcs.length
        have := len_sz cs
        omega
      refine ⟨_, rfl, 2, rfl, p, _, -2, .ref ca, rfl, rfl, .inl (.inl hp6), atI_m2 _ _ _, _, rfl, 1, rfl, p, _, -1, .ref oa, rfl, rfl, .inl (.inl hp6), atI_m1 _ _ _, by show 2 ≤ sizeLine; decide, fun r1 hr1 => ⟨by show 1 ≤ sizeLine; decide, fun l3 hl3 => ?_⟩⟩
      have n1B := hb6.neB hr1
      have hb7 := hb6.new hr1 (.tup [.str "other", .ref oa])
      have n3B := hb7.neB hl3
      have hb8 := hb7.new hl3 (.lst [.ref r1])
      have D1 := Go.new (B := B) hr1 (.tup [.str "other", .ref oa])
      have D3 := Go.new (B := B) hl3 (.lst [.ref r1])
      have hca8 := up_go h0 hB ((G6.trans D1).trans D3) _ _ hc
      refine ⟨ca, l3, cvs, [.ref r1], rfl, rfl, hca8, upd_same, le_line (by show cvs.length + 1 < 10000000; omega), fun l4 hl4 => ⟨l4, rfl, ⟨_, SqL.of upd_same⟩, ?_⟩⟩
      have n4B := hb8.neB hl4
      have hb9 := hb8.new hl4 (.lst (cvs ++ [.ref r1]))
      have D4 := Go.new (B := B) hl4 (.lst (cvs ++ [.ref r1]))
      have hr1' := (D3.trans D4).ext _ _ n1B (upd_same (H := H6) (a := r1) (o := .tup [.str "other", .ref oa]))
      refine for_list (K := K) (a := l4) (xs := cvs ++ [.ref r1]) (fun j σ' H7 => ∃ (cl : List Nat) (o5 o6 o7 : Option V), σ' = [some (.ref B), some (.ref a), some (.bl lo), some (.str (mkS (l ++ h ++ cl))), some (.ref p), o5, o6, o7] ∧ Go B H H7 ∧ Box H7 B d ∧ H7 l4 = some (.lst (cvs ++ [.ref r1])) ∧ H7 r1 = some (.tup [.str "other", .ref oa]) ∧ Cj lo cs o ks j cl)
        ⟨[], o5, o6, o7, by rw [List.append_nil], ((G6.trans D1).trans D3).trans D4, hb9, upd_same, hr1', .inl ⟨Nat.zero_le _, by rw [List.take_zero]; exact ⟨rfl, fun _ => rfl⟩⟩⟩ (fun j σ' H7 _ ⟨_, _, _, _, _, _, _, h, _⟩ => SqL.of h) ?_ ?_
      · rintro j v σ' H7 hv ⟨cl, o5, o6, o7, rfl, G7, hb7', h4', h1', hC⟩
        -- which case it is
        have hj : j < ks.length ∨ (j = ks.length ∧ v = .ref r1) := by
          by_cases z : j < cvs.length
          · exact .inl (by omega)
          · refine .inr ?_
            rw [List.getElem?_append_right (by omega)] at hv
            have z2 : j - cvs.length = 0 := by
              by_cases z3 : j - cvs.length = 0
              · exact z3
              · rw [List.getElem?_eq_none (by simp; omega)] at hv
                cases hv
            rw [z2] at hv
            have : V.ref r1 = v := by simpa using hv
            exact ⟨by omega, this.symm⟩
        have hC1 : Lw lo (cch (ks.take j)) cl := by
          rcases hC with ⟨_, h⟩ | ⟨h, _⟩
          · exact h
          · exact absurd h (by rcases hj with z | ⟨z, _⟩ <;> omega)
        obtain ⟨kv, b', mt, a', rfl, hT, hbm, wm, sm', dm, zm, kk, hcase⟩ : ∃ (kv : V) (b' : Addr) (mt : T) (a' : Addr), v = .ref a' ∧ H7 a' = some (.tup [kv, .ref b']) ∧ At H0 b' mt ∧ Wf mt false ∧ Sm mt ∧ mt.dep < n ∧ mt.sz < 30000 ∧ KeyS kv ∧ ((∃ q : V × T, ks[j]? = some q ∧ kv = q.1 ∧ mt = q.2) ∨ (j = ks.length ∧ kv = .str "other" ∧ mt = o)) := by
          rcases hj with z | ⟨z, rfl⟩
          · rw [List.getElem?_append_left (by omega)] at hv
            obtain ⟨qq, a', b', f1, rfl, f2, f3, f4, f5, f6⟩ := hki j v hv
            have f7 := hkd qq (List.mem_of_getElem? f1)
            exact ⟨qq.1, b', qq.2, a', rfl, up_go h0 hB G7 _ _ f2, f3, f4, f5, by omega, by omega, f6, .inl ⟨qq, f1, rfl, rfl⟩⟩
          · exact ⟨.str "other", oa, o, r1, rfl, h1', ⟨ovs, ho, hos⟩, wo, so, by omega, by omega, .inl ⟨"other", rfl, by decide⟩, .inr ⟨z, rfl, rfl⟩⟩
        have kl := keyL_len kk
        have hcl : cl.length ≤ 3000000 := by
          have scs' := scs
          rw [hks] at scs'
          obtain ⟨z1, z2⟩ := cch_take ks j scs'
          have z3 := ln_len z1 hC1.1
          rw [← hks] at z2
          omega
        have hL0 : (l ++ h ++ cl).length ≤ 6000060 := by
          rw [List.length_append, List.length_append]
          omega
        refine ⟨a', _, rfl, .inl (.inl hT), rfl, kv, _, rfl, .ref b', [], rfl, rfl, ?_⟩
        refine ⟨_, rfl, ?_⟩
        refine ⟨fun σ' H8 => σ' = [some (.ref B), some (.ref a), some (.bl lo), some (.str (mkS (l ++ h ++ cl))), some (.ref p), some kv, some (.ref b'), some (.str (mkS (keyL kv)))] ∧ H8 = H7, ?_, ?_⟩
        · rcases kk with ⟨s, rfl, hs⟩ | ⟨i', rfl, i0, i9⟩
          · refine ⟨_, rfl, .str s, .ty "str", .type "str", .type "str", true, rfl, .ty "str", .base (.str s), kit_ty (by decide +kernel), true, rfl, ?_⟩
            refine iteF ?_
            exact ⟨rfl, rfl⟩
          · obtain ⟨hsl, hsg⟩ := show_len i0 i9
            have l61 : ("=" : Str).length = 1 := rfl
            refine ⟨_, rfl, .int i', .ty "str", .type "int", .type "str", false, rfl, .ty "str", .base (.int i'), kit_ty (by decide +kernel), false, rfl, ?_⟩
            refine iteT ⟨_, rfl, i', rfl, hsg, _, _, rfl, rfl, le_line (by omega), ?_, rfl⟩
            have : ("=" : Str) ++ (toString i' : Str) = mkS (keyL (.int i')) := app_mk _ _
            rw [← this]
            rfl
        rintro σ' H8 ⟨rfl, rfl⟩
        refine ⟨_, rfl, _, rfl, _, rfl, B, d, lo, rfl, hb7', fun g5 H9 q5 k5 e5 gg5 hb9' => ?_⟩
        refine ⟨_, _, rfl, rfl, le_line (by rw [mk_len]; omega), _, rfl, _, _, rfl, rfl, le_line (by simp only [sl, mk_len]; omega), _, rfl, _, rfl, B, d, lo, rfl, hb9', fun g6 H10 q6 k6 e6 gg6 hb10 => ?_⟩
        refine ⟨_, _, rfl, rfl, le_line (by simp only [sl, mk_len]; omega), _, _, rfl, rfl, le_line (by simp only [sl, mk_len]; omega), ?_⟩
        refine ⟨_, rfl, _, rfl, _, rfl, B, d, b', lo, H0, mt, rfl, hb10, up_go h0 hB ((G7.trans gg5).trans gg6), hB, hbm, wm, sm', dm, zm, fun ml H11 hml gg7 hb11 => ?_⟩
        have hmll : ml.length ≤ 3000000 := by
          have := ln_len sm' hml.1
          omega
        refine ⟨_, _, rfl, rfl, le_line (by simp only [sl, mk_len]; omega), _, _, rfl, rfl, le_line (by simp only [sl, mk_len]; omega), ?_⟩
        have ef : mkS (l ++ h ++ cl) ++ g5 ++ mkS (keyL kv) ++ g6 ++ ("{" : Str) ++ mkS ml ++ ("}" : Str) = mkS (l ++ h ++ (cl ++ (tl g5 ++ keyL kv ++ tl g6 ++ [123] ++ ml ++ [125]))) := by
          refine TL.ext_tl ?_
          simp only [TL.tl_append]
          show ((((((l ++ h ++ cl) ++ tl g5) ++ keyL kv) ++ tl g6) ++ [123]) ++ ml) ++ [125] = l ++ h ++ (cl ++ (tl g5 ++ keyL kv ++ tl g6 ++ [123] ++ ml ++ [125]))
          simp
        have GG := ((G7.trans gg5).trans gg6).trans gg7
        have g8 := (gg5.trans gg6).trans gg7
        have Q5 : Gq1 (tl g5) := ⟨q5, by rw [← len_tl']; exact k5⟩
        have Q6 : Gq1 (tl g6) := ⟨q6, by rw [← len_tl']; exact k6⟩
        refine ⟨cl ++ (tl g5 ++ keyL kv ++ tl g6 ++ [123] ++ ml ++ [125]), some kv, some (.ref b'), some (.str (mkS (keyL kv))), ?_, GG, hb11, g8.ext _ _ n4B h4', g8.ext _ _ n1B h1', ?_⟩
        · rw [← ef]
          rfl
        · rcases hcase with ⟨qq, f1, rfl, rfl⟩ | ⟨z, rfl, rfl⟩
          · refine .inl ⟨(List.getElem?_eq_some_iff.mp f1).1, ?_⟩
            rw [List.take_succ, f1]
            show Lw lo (cch (ks.take j ++ [qq])) _
            rw [cch_app]
            exact hC1.app ⟨⟨tl g5, tl g6, ml, [], Q5, Q6, hml.1, by simp, rfl⟩, fun e => by rw [e5 e, e6 e, hml.2 e]; simp [T.lw, tl_mk]⟩
          · refine .inr ⟨by omega, cl, tl g5, tl g6, ml, ?_, Q5, Q6, hml, by simp [keyL], fun e => ⟨by rw [e5 e]; rfl, by rw [e6 e]; rfl⟩⟩
            rw [z, List.take_length, ← hks] at hC1
            exact hC1
      · rintro σ' H7 ⟨cl, o5, o6, o7, rfl, G7, hb7', h4', h1', hC⟩
        rw [List.length_append, ← hkl] at hC
        have hC2 : ∃ cl0 g5 g6 ol, Lw lo cs cl0 ∧ Gq1 g5 ∧ Gq1 g6 ∧ Lw lo o ol ∧ cl = cl0 ++ g5 ++ tl "other" ++ g6 ++ [123] ++ ol ++ [125] ∧ (lo = false → g5 = [32] ∧ g6 = [32]) := by
          rcases hC with ⟨h, _⟩ | ⟨_, h⟩
          · exact absurd h (by show ¬ ks.length + 1 ≤ ks.length; omega)
          · exact h
        obtain ⟨cl0, g5, g6, ol, L0, Q5, Q6, L1, rfl, tg⟩ := hC2
        have z1 := ln_len scs L0.1
        have z2 := ln_len so L1.1
        have z3 := Q5.2
        have z4 := Q6.2
        have z5 : (tl ("other" : Str)).length = 5 := rfl
        have zz : (l ++ h ++ (cl0 ++ g5 ++ tl "other" ++ g6 ++ [123] ++ ol ++ [125])).length ≤ 9100000 := by
          simp only [List.length_append, List.length_cons, List.length_nil]
          omega
        refine ⟨_, rfl, _, rfl, _, rfl, B, d, lo, rfl, hb7', fun g7 H9 q7 k7 e7 gg7 hb9' => ?_⟩
        refine ⟨_, _, rfl, rfl, le_line (by rw [mk_len]; omega), _, _, rfl, rfl, le_line (by simp only [sl, mk_len]; omega), ?_⟩
        have ef : mkS (l ++ h ++ (cl0 ++ g5 ++ tl "other" ++ g6 ++ [123] ++ ol ++ [125])) ++ g7 ++ ("}" : Str) = mkS (l ++ (h ++ cl0 ++ g5 ++ tl "other" ++ g6 ++ [123] ++ ol ++ [125] ++ tl g7 ++ [125])) := by
          refine TL.ext_tl ?_
          simp only [TL.tl_append]
          show ((l ++ h ++ (cl0 ++ g5 ++ tl "other" ++ g6 ++ [123] ++ ol ++ [125])) ++ tl g7) ++ [125] = l ++ (h ++ cl0 ++ g5 ++ tl "other" ++ g6 ++ [123] ++ ol ++ [125] ++ tl g7 ++ [125])
          simp
        refine ⟨l ++ (h ++ cl0 ++ g5 ++ tl "other" ++ g6 ++ [123] ++ ol ++ [125] ++ tl g7 ++ [125]), some (.ref p), o5, o6, o7, ?_, G7.trans gg7, hb9', fin _ ⟨⟨h, cl0, g5, g6, ol, tl g7, [], hH, L0.1, Q5, Q6, L1.1, ⟨q7, by rw [← len_tl']; exact k7⟩, by simp, rfl⟩, fun e => ?_⟩⟩
        · rw [← ef]
          rfl
        · obtain ⟨t5, t6⟩ := tg e
          rw [hT e, L0.2 e, L1.2 e, t5, t6, e7 e]
          simp [T.lw, tl_mk]
  · rintro σ H' ⟨l, o4, o5, o6, o7, rfl, g, hb', hL⟩
    rw [hns.length, List.take_length, ch_nodes] at hL
    exact ⟨_, rfl, q l H' hL g hb'⟩
theorem ok_wr {f fE fG fO : Addr} {fd fdE fdG fdO : FuncData} (F : Fun K "_law_written" "_law_written" sWr f fd) (b : Binds K fd ["box", "message", "loose"] []) (mf : mg "_law_written" = some (.ref f))
    (GE : FnOk P w K mg base CX0 1 fE fdE ["text"] spEsc) (bE : Binds K fdE ["text"] []) (kE : PySem.W.keepIn K (.ref fE) = true) (mE : mg "_law_escaped" = some (.ref fE))
    (GG : FnOk P w K mg base CX0 2 fG fdG ["box", "loose"] spGap) (bG : Binds K fdG ["box", "loose"] []) (kG : PySem.W.keepIn K (.ref fG) = true) (mG : mg "_law_gap" = some (.ref fG))
    (GO : FnOk P w K mg base CX0 2 fO fdO ["box", "loose"] spOne) (bO : Binds K fdO ["box", "loose"] []) (kO : PySem.W.keepIn K (.ref fO) = true) (mO : mg "_law_one_gap" = some (.ref fO))
    (mi : mg "isinstance" = none) (ms : mg "str" = none) : ∀ n, FnOk P w K mg base CX0 (n + 2) f fd ["box", "message", "loose"] (spWr n)
  | 0 => (none_left fun vs H Q E ⟨_, _, _, _, _, _, _, _, _, _, _, _, _, h, _⟩ => Nat.not_lt_zero _ h).mono (Nat.zero_le _)
  | n + 1 => ok_wr_turn (m := n + 2) (by omega) F (ok_wr F b mf GE bE kE mE GG bG kG mG GO bO kO mO mi ms n) b mf GE bE kE mE GG bG kG mG GO bO kO mO mi ms
end
end Mw

namespace Mw
open PySem L2
/-! ### the reader -/
def mth (s : Stmt) (i : Nat) : Stmt := match s with
  | .ClassDef _ _ _ b _ _ _ _ _ _ _ => b.getD i (.Pass ⟨0, 0, 0, 0⟩)
  | s => s
/-- a statement that is never reached -/
theorem ps_dead {X : Cx} {st : Stmt} : PS X st (fun _ _ _ => False) := ⟨fun _ _ _ _ _ _ h => h.elim⟩
def rdF (tx : Str) (p : Int) (nl cl : Addr) (pl : Int) : List (Str × V) := [("text", .str tx), ("place", .int p), ("nodes", .ref nl), ("choices", .ref cl), ("plurals", .int pl)]
theorem put_place (tx : Str) (p q : Int) (nl cl : Addr) (pl : Int) : putF "place" (.int q) (rdF tx p nl cl pl) = rdF tx q nl cl pl := rfl
theorem put_nodes (tx : Str) (p : Int) (nl cl ml : Addr) (pl : Int) : putF "nodes" (.ref ml) (rdF tx p nl cl pl) = rdF tx p ml cl pl := rfl
theorem put_plurals (tx : Str) (p : Int) (nl cl : Addr) (pl ql : Int) : putF "plurals" (.int ql) (rdF tx p nl cl pl) = rdF tx p nl cl ql := rfl
/-- what the row says of the class Reader -/
structure RC (K : PySem.W.Frag) (C : Addr) : Prop where
  c : Cls K C
  nt : NoAttr K C "text"
  np : NoAttr K C "place"
  nn : NoAttr K C "nodes"
  nc : NoAttr K C "choices"
  nu : NoAttr K C "plurals"
section
variable {P : Program} {w : World} {K : PySem.W.Frag} {mg : Str → Option Value} {base : Heap} {C : Addr}
abbrev sSg : Stmt := mth (top 26) 1
theorem scSg : FnScope ["self"] ["self"] (defScope sSg) := ⟨rfl, rfl, rfl, by decide +kernel, rfl, by decide +kernel, by decide +kernel⟩
def spSg (C : Addr) : Sp := fun vs H Q _ => ∃ (r dx nl cl : Addr) (tx : Str) (p : Nat) (pl : Int) (c : Nat), vs = [.ref r] ∧ H r = some (.ins C dx (rdF tx p nl cl pl)) ∧ tx.length < 10000000 ∧ (tl tx)[p]? = some c ∧ Q (.str ⟨#[c]⟩) H
theorem ok_sg {f : Addr} {fd : FuncData} (F : Fun K "sign_ahead" "Reader.sign_ahead" sSg f fd) (R : RC K C) (ml : mg "len" = none) : FnOk P w K mg base CX0 1 f fd ["self"] (spSg C) := by
  refine F.ok scSg (fun vs H Q E h => ?_) (fun cdv A outer s H vs Q E hr h => ?_)
  · obtain ⟨r, dx, nl, cl, tx, p, pl, c, rfl, _⟩ := h
    rfl
  obtain ⟨r, dx, nl, cl, tx, p, pl, c, rfl, hR, hl, hc, q⟩ := h
  refine ⟨_, pss_cons (ps_if (pt_cmpR op_ge (pe_fld (pv 0) rfl) (pe_callB call_len_str (by rfl) ml PySem.boot_len (pa_cons (pe_fld (pv 0) rfl) pa_nil)) (nomark _)) (pss_one ps_dead) pss_nil)
    (pss_one (ps_ret (pe_ix ix_str (pe_fld (pv 0) rfl) (pe_fld (pv 0) rfl) (fun _ _ => rfl)))), ?_⟩
  have hp : p < tx.length := by rw [len_tl']; exact (List.getElem?_eq_some_iff.mp hc).1
  refine ⟨_, rfl, r, C, dx, _, .int p, rfl, hR, R.c, R.np, rfl, _, rfl, r, C, dx, _, .str tx, rfl, hR, R.c, R.nt, rfl, tx, rfl, le_line hl, _, _, rfl, rfl, _, rfl, ?_⟩
  rw [show decide ((tx.length : Int) ≤ (p : Int)) = false from decide_eq_false (by omega)]
  exact ⟨_, rfl, r, C, dx, _, .str tx, rfl, hR, R.c, R.nt, rfl, _, rfl, r, C, dx, _, .int p, rfl, hR, R.c, R.np, rfl, tx, p, c, rfl, rfl, le_line hl, atI_nat hc, q⟩
end
end Mw

namespace Mw
open PySem L2
section
variable {P : Program} {w : World} {K : PySem.W.Frag} {mg : Str → Option Value} {base : Heap} {C : Addr}
/-- so many spaces from here on, and no more -/
def SpN (l : List Nat) (p k : Nat) : Prop := (∀ i < k, ∃ c, l[p + i]? = some c ∧ (c = 32 ∨ c = 10)) ∧ ∀ c, l[p + k]? = some c → ¬(c = 32 ∨ c = 10)
abbrev sSk : Stmt := mth (top 26) 2
theorem scSk : FnScope ["self"] ["self"] (defScope sSk) := ⟨rfl, rfl, rfl, by decide +kernel, rfl, by decide +kernel, by decide +kernel⟩
def spSk (C : Addr) : Sp := fun vs H Q _ => ∃ (r dx nl cl : Addr) (tx : Str) (p : Nat) (pl : Int) (k : Nat), vs = [.ref r] ∧ H r = some (.ins C dx (rdF tx p nl cl pl)) ∧ tx.length < 10000000 ∧ SpN (tl tx) p k ∧
  Q .non (upd H r (.ins C dx (rdF tx ((p + k : Nat) : Int) nl cl pl)))
theorem upd_self {H : Hp} {a : Addr} {o : HO} (h : H a = some o) : upd H a o = H := by
  funext b
  by_cases e : b = a
  · rw [e, upd_same, h]
  · rw [upd_ne e]
theorem upd_upd' {H : Hp} {a : Addr} {o o' : HO} : upd (upd H a o) a o' = upd H a o' := by
  funext b
  by_cases e : b = a
  · rw [e, upd_same, upd_same]
  · rw [upd_ne e, upd_ne e, upd_ne e]
theorem ok_sk {f : Addr} {fd : FuncData} {tk : Tok} (F : Fun K "skip_spaces" "Reader.skip_spaces" sSk f fd) (R : RC K C) (ml : mg "len" = none) (mS : mg "SPACES" = some (.str " \n" tk)) : FnOk P w K mg base CX0 1 f fd ["self"] (spSk C) := by
  refine F.ok scSk (fun vs H Q E h => ?_) (fun cdv A outer s H vs Q E hr h => ?_)
  · obtain ⟨r, dx, nl, cl, tx, p, pl, k, rfl, _⟩ := h
    rfl
  obtain ⟨r, dx, nl, cl, tx, p, pl, k, rfl, hR, hl, ⟨hk, hK⟩, q⟩ := h
  refine ⟨_, pss_one (ps_while PassesOwn.never (PW.pt (pw_and (pt_cmpR op_lt (pe_fld (pv 0) rfl) (pe_callB call_len_str (by rfl) ml PySem.boot_len (pa_cons (pe_fld (pv 0) rfl) pa_nil)) (nomark _))
      (pw_and1 (pt_cmpR op_in_sign (pe_ix ix_str (pe_fld (pv 0) rfl) (pe_fld (pv 0) rfl) (fun _ _ => rfl)) (pe_glob rfl mS (v := .str " \n") ⟨_, rfl⟩) (by rfl)))))
    (pss_one (ps_fldaug (pv 0) pe_int in_add))), ?_⟩
  let RD : Nat → Hp := fun j => upd H r (.ins C dx (rdF tx ((p + j : Nat) : Int) nl cl pl))
  refine ⟨fun m σ H' => ∃ j, j ≤ k ∧ m = k - j ∧ σ = L2.start ["self"] [V.ref r] ∧ H' = RD j, ⟨k, 0, by omega, by omega, rfl, (upd_self hR).symm⟩, ?_⟩
  rintro m σ H' ⟨j, hj, rfl, rfl, rfl⟩
  have hR' : RD j r = some (.ins C dx (rdF tx ((p + j : Nat) : Int) nl cl pl)) := upd_same
  refine ⟨_, rfl, r, C, dx, _, .int ((p + j : Nat) : Int), rfl, hR', R.c, R.np, rfl, _, rfl, r, C, dx, _, .str tx, rfl, hR', R.c, R.nt, rfl, tx, rfl, le_line hl, _, _, rfl, rfl, _, rfl, ?_⟩
  by_cases hp : p + j < tx.length
  · rw [show decide (((p + j : Nat) : Int) < (tx.length : Int)) = true from decide_eq_true (by omega)]
    obtain ⟨c, hc⟩ : ∃ c, (tl tx)[p + j]? = some c := ⟨_, List.getElem?_eq_getElem (by rw [← len_tl']; exact hp)⟩
    refine ⟨_, rfl, r, C, dx, _, .str tx, rfl, hR', R.c, R.nt, rfl, _, rfl, r, C, dx, _, .int ((p + j : Nat) : Int), rfl, hR', R.c, R.np, rfl, tx, _, c, rfl, rfl, le_line hl, atI_nat hc, c, _, rfl, rfl, _, rfl, ?_⟩
    have hm : (c ∈ (" \n" : Str).cps.toList) ↔ (c = 32 ∨ c = 10) := by
      rw [show (" \n" : Str).cps.toList = [32, 10] from rfl]
      simp
    by_cases e : c = 32 ∨ c = 10
    · have hjk : j < k := by
        rcases Nat.lt_or_ge j k with h | h
        · exact h
        · have : j = k := by omega
          exact absurd e (hK c (by rw [← this]; exact hc))
      rw [decide_eq_true (hm.mpr e)]
      refine ⟨fun σ H' => σ = L2.start ["self"] [V.ref r] ∧ H' = RD (j + 1), fun σ' H' ⟨e1, e2⟩ => ⟨k - (j + 1), by omega, j + 1, by omega, rfl, e1, e2⟩, ?_⟩
      refine ⟨_, rfl, r, C, dx, _, .int ((p + j : Nat) : Int), rfl, hR', R.c, R.np, rfl, ?_⟩
      refine ⟨_, _, rfl, rfl, dx, _, hR', by show 5 < 1000; omega, rfl, ?_⟩
      rw [put_place, upd_upd']
      rfl
    · have hjk : j = k := by
        rcases Nat.lt_or_ge j k with h | h
        · obtain ⟨c', h1, h2⟩ := hk j h
          rw [hc] at h1
          cases h1
          exact absurd h2 e
        · omega
      rw [decide_eq_false (fun h => e (hm.mp h))]
      rw [hjk]
      exact q
  · rw [show decide (((p + j : Nat) : Int) < (tx.length : Int)) = false from decide_eq_false (by omega)]
    have hjk : j = k := by
      rcases Nat.lt_or_ge j k with h | h
      · obtain ⟨c', h1, _⟩ := hk j h
        have := (List.getElem?_eq_some_iff.mp h1).1
        rw [← len_tl'] at this
        omega
      · omega
    rw [hjk]
    exact q
end
end Mw

namespace Mw
open PySem L2
section
variable {P : Program} {w : World} {K : PySem.W.Frag} {mg : Str → Option Value} {base : Heap} {C : Addr}
abbrev sTs : Stmt := mth (top 26) 3
theorem scTs : FnScope ["self", "sign"] ["self", "sign"] (defScope sTs) := ⟨rfl, rfl, rfl, by decide +kernel, rfl, by decide +kernel, by decide +kernel⟩
def spTs (C : Addr) : Sp := fun vs H Q _ => ∃ (r dx nl cl : Addr) (tx : Str) (p : Nat) (pl : Int) (k : Nat) (c : Nat), vs = [.ref r, .str ⟨#[c]⟩] ∧ H r = some (.ins C dx (rdF tx p nl cl pl)) ∧ tx.length < 10000000 ∧ SpN (tl tx) p k ∧ (tl tx)[p + k]? = some c ∧
  Q .non (upd H r (.ins C dx (rdF tx ((p + k + 1 : Nat) : Int) nl cl pl)))
theorem ok_ts {f fK fG : Addr} {fd fdK fdG : FuncData} (F : Fun K "take_sign" "Reader.take_sign" sTs f fd) (R : RC K C)
    (GK : FnOk P w K mg base CX0 1 fK fdK ["self"] (spSk C)) (bK : Binds K fdK ["self"] []) (mK : Meth K C "skip_spaces" fK)
    (GG : FnOk P w K mg base CX0 1 fG fdG ["self"] (spSg C)) (bG : Binds K fdG ["self"] []) (mG : Meth K C "sign_ahead" fG) : FnOk P w K mg base CX0 2 f fd ["self", "sign"] (spTs C) := by
  refine F.ok scTs (fun vs H Q E h => ?_) (fun cdv A outer s H vs Q E hr h => ?_)
  · obtain ⟨r, dx, nl, cl, tx, p, pl, k, c, rfl, _⟩ := h
    rfl
  obtain ⟨r, dx, nl, cl, tx, p, pl, k, c, rfl, hR, hl, hk, hc, q⟩ := h
  refine ⟨_, pss_cons (ps_expr (pe_meth0 (pv 0) R.c mK GK hr bK .nil pass0)) (pss_cons (ps_if (pt_cmpR op_ne (pe_meth0 (pv 0) R.c mG GG hr bG .nil pass0) (pv 1) (nomark _)) (pss_one ps_dead) pss_nil)
    (pss_one (ps_fldaug (pv 0) pe_int in_add))), ?_⟩
  have hR' : upd H r (.ins C dx (rdF tx ((p + k : Nat) : Int) nl cl pl)) r = some (.ins C dx (rdF tx ((p + k : Nat) : Int) nl cl pl)) := upd_same
  refine ⟨_, rfl, r, dx, _, rfl, hR, rfl, ⟨r, dx, nl, cl, tx, p, pl, k, rfl, hR, hl, hk, ?_⟩⟩
  refine ⟨_, rfl, r, dx, _, rfl, hR', rfl, ⟨r, dx, nl, cl, tx, p + k, pl, c, rfl, hR', hl, hc, ?_⟩⟩
  refine ⟨_, rfl, rfl, _, rfl, ?_⟩
  rw [show decide (V.str ⟨#[c]⟩ = V.str ⟨#[c]⟩) = true from decide_eq_true rfl]
  refine ⟨_, rfl, r, C, dx, _, .int ((p + k : Nat) : Int), rfl, hR', R.c, R.np, rfl, ?_⟩
  refine ⟨_, _, rfl, rfl, dx, _, hR', by show 5 < 1000; omega, ?_⟩
  rw [put_place, upd_upd']
  exact q
/-- a row of such signs from here on, and no more -/
def RowN (z : Str) (l : List Nat) (p k : Nat) : Prop := (∀ i < k, ∃ c, l[p + i]? = some c ∧ c ∈ tl z) ∧ ∀ c, l[p + k]? = some c → c ∉ tl z
abbrev sTr : Stmt := mth (top 26) 4
theorem scTr : FnScope ["self", "signs", "begin"] ["self", "signs"] (defScope sTr) := ⟨rfl, rfl, rfl, by decide +kernel, rfl, by decide +kernel, by decide +kernel⟩
def spTr (C : Addr) : Sp := fun vs H Q _ => ∃ (r dx nl cl : Addr) (tx : Str) (p : Nat) (pl : Int) (k : Nat) (z : Str), vs = [.ref r, .str z] ∧ H r = some (.ins C dx (rdF tx p nl cl pl)) ∧ tx.length < 10000000 ∧ 0 < k ∧ RowN z (tl tx) p k ∧
  Q (.str (mkS (((tl tx).drop p).take k))) (upd H r (.ins C dx (rdF tx ((p + k : Nat) : Int) nl cl pl)))
theorem ok_tr {f fG : Addr} {fd fdG : FuncData} (F : Fun K "take_row" "Reader.take_row" sTr f fd) (R : RC K C) (ml : mg "len" = none)
    (GG : FnOk P w K mg base CX0 1 fG fdG ["self"] (spSg C)) (bG : Binds K fdG ["self"] []) (mG : Meth K C "sign_ahead" fG) : FnOk P w K mg base CX0 2 f fd ["self", "signs"] (spTr C) := by
  refine F.ok scTr (fun vs H Q E h => ?_) (fun cdv A outer s H vs Q E hr h => ?_)
  · obtain ⟨r, dx, nl, cl, tx, p, pl, k, z, rfl, _⟩ := h
    rfl
  obtain ⟨r, dx, nl, cl, tx, p, pl, k, z, rfl, hR, hl, h0, ⟨hk, hK⟩, q⟩ := h
  have nd := scTr.nd
  refine ⟨_, pss_cons (ps_set (i := 2) nd rfl (.inl rfl) (pe_fld (pv 0) rfl))
    (pss_cons (ps_if (pt_cmpR op_notIn_sign (pe_meth0 (pv 0) R.c mG GG hr bG .nil pass0) (pv 1) (by rfl)) (pss_one ps_dead) pss_nil)
    (pss_cons (ps_while PassesOwn.never (PW.pt (pw_and (pt_cmpR op_lt (pe_fld (pv 0) rfl) (pe_callB call_len_str (by rfl) ml PySem.boot_len (pa_cons (pe_fld (pv 0) rfl) pa_nil)) (nomark _))
      (pw_and1 (pt_cmpR op_in_sign (pe_ix ix_str (pe_fld (pv 0) rfl) (pe_fld (pv 0) rfl) (fun _ _ => rfl)) (pv 1) (by rfl)))))
      (pss_one (ps_fldaug (pv 0) pe_int in_add)))
    (pss_one (ps_ret (pe_slice sl_str (pe_fld (pv 0) rfl) (po_some (pv 2)) (po_some (pe_fld (pv 0) rfl))))))), ?_⟩
  have rowEnd : ∀ {n : Nat}, n = tx.length → p + k ≤ n := fun e => by
    rcases Nat.eq_zero_or_pos k with h | h
    · omega
    · obtain ⟨c', h1, _⟩ := hk (k - 1) (by omega)
      have := (List.getElem?_eq_some_iff.mp h1).1
      rw [← len_tl'] at this
      omega
  obtain ⟨c0, hc0, hm0⟩ := hk 0 h0
  rw [Nat.add_zero] at hc0
  refine ⟨_, rfl, r, C, dx, _, .int (p : Int), rfl, hR, R.c, R.np, rfl, ?_⟩
  refine ⟨_, rfl, r, dx, _, rfl, hR, rfl, ⟨r, dx, nl, cl, tx, p, pl, c0, rfl, hR, hl, hc0, ?_⟩⟩
  refine ⟨_, rfl, c0, z, rfl, rfl, _, rfl, ?_⟩
  rw [show decide (c0 ∈ z.cps.toList) = true from decide_eq_true hm0]
  let RD : Nat → Hp := fun j => upd H r (.ins C dx (rdF tx ((p + j : Nat) : Int) nl cl pl))
  let S : St := [some (.ref r), some (.str z), some (.int (p : Int))]
  refine ⟨fun m σ H' => ∃ j, j ≤ k ∧ m = k - j ∧ σ = S ∧ H' = RD j, ⟨k, 0, by omega, by omega, rfl, (upd_self hR).symm⟩, ?_⟩
  rintro m σ H' ⟨j, hj, rfl, rfl, rfl⟩
  have hR' : RD j r = some (.ins C dx (rdF tx ((p + j : Nat) : Int) nl cl pl)) := upd_same
  have fin : j = k → tRet (tSl rSlS (tFld K (tVar 0) "text") (tPart (tVar 2)) (tPart (tFld K (tVar 0) "place"))) { nx := fun _ H' => Q V.non H', rt := Q } S (RD j) := fun e => by
    subst e
    refine ⟨_, rfl, r, C, dx, _, .str tx, rfl, hR', R.c, R.nt, rfl, _, rfl, _, rfl, _, rfl, r, C, dx, _, .int ((p + j : Nat) : Int), rfl, hR', R.c, R.np, rfl, _, rfl, tx, rfl, le_line hl, ?_⟩
    rw [show cutS tx (some (p : Int)) (some ((p + j : Nat) : Int)) = mkS (((tl tx).drop p).take j) from ?_]
    · exact q
    · unfold cutS
      have := rowEnd rfl
      rw [HT.sIx_nat, HT.sIx_nat, Nat.min_eq_left (by omega), Nat.min_eq_left (by omega), Nat.add_sub_cancel_left]
      rfl
  refine ⟨_, rfl, r, C, dx, _, .int ((p + j : Nat) : Int), rfl, hR', R.c, R.np, rfl, _, rfl, r, C, dx, _, .str tx, rfl, hR', R.c, R.nt, rfl, tx, rfl, le_line hl, _, _, rfl, rfl, _, rfl, ?_⟩
  by_cases hp : p + j < tx.length
  · rw [show decide (((p + j : Nat) : Int) < (tx.length : Int)) = true from decide_eq_true (by omega)]
    obtain ⟨c, hc⟩ : ∃ c, (tl tx)[p + j]? = some c := ⟨_, List.getElem?_eq_getElem (by rw [← len_tl']; exact hp)⟩
    refine ⟨_, rfl, r, C, dx, _, .str tx, rfl, hR', R.c, R.nt, rfl, _, rfl, r, C, dx, _, .int ((p + j : Nat) : Int), rfl, hR', R.c, R.np, rfl, tx, _, c, rfl, rfl, le_line hl, atI_nat hc, _, rfl, c, _, rfl, rfl, _, rfl, ?_⟩
    by_cases e : c ∈ tl z
    · have hjk : j < k := by
        rcases Nat.lt_or_ge j k with h | h
        · exact h
        · have : j = k := by omega
          exact absurd e (hK c (by rw [← this]; exact hc))
      rw [show decide (c ∈ z.cps.toList) = true from decide_eq_true e]
      refine ⟨fun σ H' => σ = S ∧ H' = RD (j + 1), fun σ' H' ⟨e1, e2⟩ => ⟨k - (j + 1), by omega, j + 1, by omega, rfl, e1, e2⟩, ?_⟩
      refine ⟨_, rfl, r, C, dx, _, .int ((p + j : Nat) : Int), rfl, hR', R.c, R.np, rfl, ?_⟩
      refine ⟨_, _, rfl, rfl, dx, _, hR', by show 5 < 1000; omega, rfl, ?_⟩
      rw [put_place, upd_upd']
      rfl
    · have hjk : j = k := by
        rcases Nat.lt_or_ge j k with h | h
        · obtain ⟨c', h1, h2⟩ := hk j h
          rw [hc] at h1
          cases h1
          exact absurd h2 e
        · omega
      rw [show decide (c ∈ z.cps.toList) = false from decide_eq_false e]
      exact fin hjk
  · rw [show decide (((p + j : Nat) : Int) < (tx.length : Int)) = false from decide_eq_false (by omega)]
    have hjk : j = k := by
      have := rowEnd rfl
      rcases Nat.lt_or_ge j k with h | h
      · omega
      · omega
    exact fin hjk
end
end Mw

namespace Mw
open PySem L2
section
variable {P : Program} {w : World} {K : PySem.W.Frag} {mg : Str → Option Value} {base : Heap} {C : Addr}
abbrev lettersS : Str := "abcdefghijklmnopqrstuvwxyz"
abbrev figuresS : Str := "0123456789"
theorem row_end {z : Str} {tx : Str} {p k : Nat} (h0 : 0 < k) (h : RowN z (tl tx) p k) : p + k ≤ tx.length := by
  obtain ⟨c', h1, _⟩ := h.1 (k - 1) (by omega)
  have := (List.getElem?_eq_some_iff.mp h1).1
  rw [← len_tl'] at this
  omega
theorem row_len {tx : Str} {p k : Nat} (h : p + k ≤ tx.length) : (mkS (((tl tx).drop p).take k)).length = k := by
  rw [len_tl', tl_mk, List.length_take, List.length_drop, ← len_tl']
  omega
abbrev sNa : Stmt := mth (top 26) 5
theorem scNa : FnScope ["self", "begin", "name"] ["self"] (defScope sNa) := ⟨rfl, rfl, rfl, by decide +kernel, rfl, by decide +kernel, by decide +kernel⟩
def spNa (C : Addr) : Sp := fun vs H Q _ => ∃ (r dx nl cl : Addr) (tx : Str) (p : Nat) (pl : Int) (k : Nat), vs = [.ref r] ∧ H r = some (.ins C dx (rdF tx p nl cl pl)) ∧ tx.length < 10000000 ∧ 0 < k ∧ k ≤ 8 ∧ RowN lettersS (tl tx) p k ∧
  Q (.str (mkS (((tl tx).drop p).take k))) (upd H r (.ins C dx (rdF tx ((p + k : Nat) : Int) nl cl pl)))
theorem ok_na {f fR : Addr} {fd fdR : FuncData} {tk tm : Tok} (F : Fun K "take_name" "Reader.take_name" sNa f fd) (R : RC K C) (ml : mg "len" = none) (mL : mg "LETTERS" = some (.str lettersS tk)) (mM : mg "MOST_LETTERS" = some (.int 8 tm))
    (GR : FnOk P w K mg base CX0 2 fR fdR ["self", "signs"] (spTr C)) (bR : Binds K fdR ["self", "signs"] []) (mR : Meth K C "take_row" fR) : FnOk P w K mg base CX0 3 f fd ["self"] (spNa C) := by
  refine F.ok scNa (fun vs H Q E h => ?_) (fun cdv A outer s H vs Q E hr h => ?_)
  · obtain ⟨r, dx, nl, cl, tx, p, pl, k, rfl, _⟩ := h
    rfl
  obtain ⟨r, dx, nl, cl, tx, p, pl, k, rfl, hR, hl, h0, h8, hk, q⟩ := h
  have nd := scNa.nd
  refine ⟨_, pss_cons (ps_set (i := 1) nd rfl (.inl rfl) (pe_fld (pv 0) rfl))
    (pss_cons (ps_set (i := 2) nd rfl (.inl rfl) (pe_meth (pv 0) R.c mR GR hr bR .nil pass0 (pa_cons (pe_glob rfl mL (v := .str lettersS) ⟨_, rfl⟩) pa_nil)))
    (pss_cons (ps_if (pt_cmpR op_gt (pe_callB call_len_str (by rfl) ml PySem.boot_len (pa_cons (pv 2) pa_nil)) (pe_glob rfl mM (v := .int 8) ⟨_, rfl⟩) (nomark _)) (pss_one ps_dead) pss_nil)
    (pss_one (ps_ret (pv 2))))), ?_⟩
  refine ⟨_, rfl, r, C, dx, _, .int (p : Int), rfl, hR, R.c, R.np, rfl, ?_⟩
  refine ⟨_, rfl, r, dx, _, rfl, hR, rfl, ⟨r, dx, nl, cl, tx, p, pl, k, lettersS, rfl, hR, hl, h0, hk, ?_⟩⟩
  have hz := row_len (row_end h0 hk)
  refine ⟨_, rfl, _, rfl, by rw [hz]; exact Nat.le_trans h8 (by decide), _, _, rfl, rfl, _, rfl, ?_⟩
  rw [hz, show decide ((8 : Int) < (k : Int)) = false from decide_eq_false (by omega)]
  exact ⟨_, rfl, q⟩
abbrev sTm : Stmt := mth (top 26) 6
theorem scTm : FnScope ["self", "most", "begin", "figures"] ["self", "most"] (defScope sTm) := ⟨rfl, rfl, rfl, by decide +kernel, rfl, by decide +kernel, by decide +kernel⟩
def spTm (C : Addr) : Sp := fun vs H Q _ => ∃ (r dx nl cl : Addr) (tx : Str) (p : Nat) (pl : Int) (k : Nat) (most : Nat) (n : Int), vs = [.ref r, .int most] ∧ H r = some (.ins C dx (rdF tx p nl cl pl)) ∧ tx.length < 10000000 ∧ 0 < k ∧ k ≤ most ∧ most ≤ 3 ∧ RowN figuresS (tl tx) p k ∧
  (1 < k → (tl tx)[p]? ≠ some 48) ∧ intText? (mkS (((tl tx).drop p).take k)) = some n ∧ Q (.int n) (upd H r (.ins C dx (rdF tx ((p + k : Nat) : Int) nl cl pl)))
theorem ok_tm {f fR : Addr} {fd fdR : FuncData} {tk : Tok} (F : Fun K "take_number" "Reader.take_number" sTm f fd) (R : RC K C) (ml : mg "len" = none) (mi : mg "int" = none) (mF : mg "FIGURES" = some (.str figuresS tk))
    (GR : FnOk P w K mg base CX0 2 fR fdR ["self", "signs"] (spTr C)) (bR : Binds K fdR ["self", "signs"] []) (mR : Meth K C "take_row" fR) : FnOk P w K mg base CX0 3 f fd ["self", "most"] (spTm C) := by
  refine F.ok scTm (fun vs H Q E h => ?_) (fun cdv A outer s H vs Q E hr h => ?_)
  · obtain ⟨r, dx, nl, cl, tx, p, pl, k, most, n, rfl, _⟩ := h
    rfl
  obtain ⟨r, dx, nl, cl, tx, p, pl, k, most, n, rfl, hR, hl, h0, hm, h3, hk, hz0, hn, q⟩ := h
  have nd := scTm.nd
  refine ⟨_, pss_cons (ps_set (i := 2) nd rfl (.inl rfl) (pe_fld (pv 0) rfl))
    (pss_cons (ps_set (i := 3) nd rfl (.inl rfl) (pe_meth (pv 0) R.c mR GR hr bR .nil pass0 (pa_cons (pe_glob rfl mF (v := .str figuresS) ⟨_, rfl⟩) pa_nil)))
    (pss_cons (ps_if (PW.pt (pw_or (pt_cmpR op_gt (pe_callB call_len_str (by rfl) ml PySem.boot_len (pa_cons (pv 3) pa_nil)) (pv 1) (nomark _))
        (pw_or1 (PW.pt (pw_and (pt_cmpR op_gt (pe_callB call_len_str (by rfl) ml PySem.boot_len (pa_cons (pv 3) pa_nil)) pe_int (nomark _))
          (pw_and1 (pt_cmpR op_eq (pe_ix ix_str (pv 3) pe_int (fun _ _ => rfl)) pe_str (nomark _)))))))) (pss_one ps_dead) pss_nil)
    (pss_one (ps_ret (pe_callTy call_int_str (by rfl) mi (by decide +kernel) (pa_cons (pv 3) pa_nil)))))), ?_⟩
  refine ⟨_, rfl, r, C, dx, _, .int (p : Int), rfl, hR, R.c, R.np, rfl, ?_⟩
  refine ⟨_, rfl, r, dx, _, rfl, hR, rfl, ⟨r, dx, nl, cl, tx, p, pl, k, figuresS, rfl, hR, hl, h0, hk, ?_⟩⟩
  have hz := row_len (row_end h0 hk)
  have hb : (mkS (((tl tx).drop p).take k)).length ≤ 3 := by rw [hz]; omega
  refine ⟨_, rfl, _, rfl, Nat.le_trans hb (by decide), _, rfl, _, _, rfl, rfl, _, rfl, ?_⟩
  rw [hz, show decide ((most : Int) < (k : Int)) = false from decide_eq_false (by omega)]
  refine ⟨_, rfl, _, rfl, Nat.le_trans hb (by decide), _, _, rfl, rfl, _, rfl, ?_⟩
  rw [hz]
  by_cases h1 : 1 < k
  · rw [show decide ((1 : Int) < (k : Int)) = true from decide_eq_true (by omega)]
    obtain ⟨c0, hc0, _⟩ := hk.1 0 h0
    rw [Nat.add_zero] at hc0
    refine ⟨_, rfl, _, 0, c0, rfl, rfl, Nat.le_trans hb (by decide), ?_, rfl, _, rfl, ?_⟩
    · refine atI_nat (j := 0) ?_
      show (((tl tx).drop p).take k)[0]? = some c0
      rw [List.getElem?_take_of_lt h0, List.getElem?_drop, Nat.add_zero]
      exact hc0
    · rw [show decide (V.str ⟨#[c0]⟩ = V.str "0") = false from ?_]
      · exact ⟨_, rfl, _, n, rfl, hn, Nat.le_trans hb (by decide), q⟩
      · refine decide_eq_false fun e => hz0 h1 ?_
        rw [hc0]
        injection e with e
        injection e with e
        rw [show c0 = 48 from by injection e with e; injection e]
  · rw [show decide ((1 : Int) < (k : Int)) = false from decide_eq_false (by omega)]
    exact ⟨_, rfl, _, n, rfl, hn, Nat.le_trans hb (by decide), q⟩
end
end Mw

namespace Mw
open PySem L2
section
variable {P : Program} {w : World} {K : PySem.W.Frag} {mg : Str → Option Value} {base : Heap} {C : Addr}
def kindS (b : Bool) : Str := if b then "plural" else "select"
abbrev sTk : Stmt := mth (top 26) 7
theorem scTk : FnScope ["self", "begin", "kind"] ["self"] (defScope sTk) := ⟨rfl, rfl, rfl, by decide +kernel, rfl, by decide +kernel, by decide +kernel⟩
def spTk (C : Addr) : Sp := fun vs H Q _ => ∃ (r dx nl cl : Addr) (tx : Str) (p : Nat) (pl : Int) (k : Nat) (b : Bool), vs = [.ref r] ∧ H r = some (.ins C dx (rdF tx p nl cl pl)) ∧ tx.length < 10000000 ∧ SpN (tl tx) p k ∧ RowN lettersS (tl tx) (p + k) 6 ∧
  ((tl tx).drop (p + k)).take 6 = tl (kindS b) ∧ ∀ H', Same (upd H r (.ins C dx (rdF tx ((p + k + 6 : Nat) : Int) nl cl pl))) H' → Q (.str (kindS b)) H'
theorem ok_tk {f fK fR : Addr} {fd fdK fdR : FuncData} {tk : Tok} (F : Fun K "take_kind" "Reader.take_kind" sTk f fd) (R : RC K C) (mL : mg "LETTERS" = some (.str lettersS tk))
    (GK : FnOk P w K mg base CX0 1 fK fdK ["self"] (spSk C)) (bK : Binds K fdK ["self"] []) (mK : Meth K C "skip_spaces" fK)
    (GR : FnOk P w K mg base CX0 2 fR fdR ["self", "signs"] (spTr C)) (bR : Binds K fdR ["self", "signs"] []) (mR : Meth K C "take_row" fR) : FnOk P w K mg base CX0 3 f fd ["self"] (spTk C) := by
  refine F.ok scTk (fun vs H Q E h => ?_) (fun cdv A outer s H vs Q E hr h => ?_)
  · obtain ⟨r, dx, nl, cl, tx, p, pl, k, b, rfl, _⟩ := h
    rfl
  obtain ⟨r, dx, nl, cl, tx, p, pl, k, b, rfl, hR, hl, hk, hw, he, q⟩ := h
  have nd := scTk.nd
  refine ⟨_, pss_cons (ps_expr (pe_meth0 (pv 0) R.c mK GK (hr.mono (by decide)) bK .nil pass0)) (pss_cons (ps_set (i := 1) nd rfl (.inl rfl) (pe_fld (pv 0) rfl))
    (pss_cons (ps_set (i := 2) nd rfl (.inl rfl) (pe_meth (pv 0) R.c mR GR hr bR .nil pass0 (pa_cons (pe_glob rfl mL (v := .str lettersS) ⟨_, rfl⟩) pa_nil)))
    (pss_cons (ps_if (pt_cmpR op_notIn_seq (pv 2) (pe_tup (pa_cons pe_str (pa_cons pe_str pa_nil))) (by rfl)) (pss_one ps_dead) pss_nil)
    (pss_one (ps_ret (pv 2)))))), ?_⟩
  have hR' : upd H r (.ins C dx (rdF tx ((p + k : Nat) : Int) nl cl pl)) r = some (.ins C dx (rdF tx ((p + k : Nat) : Int) nl cl pl)) := upd_same
  refine ⟨_, rfl, r, dx, _, rfl, hR, rfl, ⟨r, dx, nl, cl, tx, p, pl, k, rfl, hR, hl, hk, ?_⟩⟩
  refine ⟨_, rfl, r, C, dx, _, .int ((p + k : Nat) : Int), rfl, hR', R.c, R.np, rfl, ?_⟩
  refine ⟨_, rfl, r, dx, _, rfl, hR', rfl, ⟨r, dx, nl, cl, tx, p + k, pl, 6, lettersS, rfl, hR', hl, by decide, hw, ?_⟩⟩
  rw [upd_upd', he]
  refine ⟨_, rfl, by show 2 ≤ sizeLine; decide, fun t ht => ⟨t, _, rfl, .inr (.inl (.inl upd_same)), rfl, rfl, ?_⟩⟩
  have e : inV (V.str (mkS (tl (kindS b)))) [.str "select", .str "plural"] = true := by cases b <;> rfl
  refine ⟨_, rfl, ?_⟩
  show (if (!inV (V.str (mkS (tl (kindS b)))) [.str "select", .str "plural"]) = true then _ else _)
  rw [e]
  refine ⟨_, rfl, ?_⟩
  exact q _ (same_new ht _)
abbrev sTo : Stmt := mth (top 26) 8
theorem scTo : FnScope ["self"] ["self"] (defScope sTo) := ⟨rfl, rfl, rfl, by decide +kernel, rfl, by decide +kernel, by decide +kernel⟩
def spTo (C : Addr) : Sp := fun vs H Q _ => ∃ (r dx nl cl : Addr) (tx : Str) (p : Nat) (pl : Int) (k : Nat), vs = [.ref r] ∧ H r = some (.ins C dx (rdF tx p nl cl pl)) ∧ tx.length < 10000000 ∧ SpN (tl tx) p k ∧
  ((Txt.startswith3 tx "offset:" ((p + k : Nat) : Int) = false ∧ Q (.int 0) (upd H r (.ins C dx (rdF tx ((p + k : Nat) : Int) nl cl pl)))) ∨
   (Txt.startswith3 tx "offset:" ((p + k : Nat) : Int) = true ∧ RowN figuresS (tl tx) (p + k + 7) 1 ∧ ∃ n, intText? (mkS (((tl tx).drop (p + k + 7)).take 1)) = some n ∧ Q (.int n) (upd H r (.ins C dx (rdF tx ((p + k + 7 + 1 : Nat) : Int) nl cl pl)))))
theorem ok_to {f fK fM : Addr} {fd fdK fdM : FuncData} {tk tm : Tok} (F : Fun K "take_offset" "Reader.take_offset" sTo f fd) (R : RC K C) (ml : mg "len" = none) (mO : mg "OFFSET_MARK" = some (.str "offset:" tk)) (mF : mg "OFFSET_FIGURES" = some (.int 1 tm))
    (GK : FnOk P w K mg base CX0 1 fK fdK ["self"] (spSk C)) (bK : Binds K fdK ["self"] []) (mK : Meth K C "skip_spaces" fK)
    (GM : FnOk P w K mg base CX0 3 fM fdM ["self", "most"] (spTm C)) (bM : Binds K fdM ["self", "most"] []) (mM : Meth K C "take_number" fM) : FnOk P w K mg base CX0 4 f fd ["self"] (spTo C) := by
  refine F.ok scTo (fun vs H Q E h => ?_) (fun cdv A outer s H vs Q E hr h => ?_)
  · obtain ⟨r, dx, nl, cl, tx, p, pl, k, rfl, _⟩ := h
    rfl
  obtain ⟨r, dx, nl, cl, tx, p, pl, k, rfl, hR, hl, hk, h⟩ := h
  refine ⟨_, pss_cons (ps_expr (pe_meth0 (pv 0) R.c mK GK (hr.mono (by decide)) bK .nil pass0))
    (pss_cons (ps_if (pt_not (pt_val (pe_bm PySem.F.plainAttrs_str PySem.F.slot_str_startswith PySem.F.type_str_startswith mt_startswith3 (pe_fld (pv 0) rfl) (pa_cons (pe_glob rfl mO (v := .str "offset:") ⟨_, rfl⟩) (pa_cons (pe_fld (pv 0) rfl) pa_nil)))))
      (pss_one (ps_ret pe_int)) pss_nil)
    (pss_cons (ps_fldaug (pv 0) (pe_callB call_len_str (by rfl) ml PySem.boot_len (pa_cons (pe_glob rfl mO (v := .str "offset:") ⟨_, rfl⟩) pa_nil)) in_add)
    (pss_one (ps_ret (pe_meth (pv 0) R.c mM GM hr bM .nil pass0 (pa_cons (pe_glob rfl mF (v := .int 1) ⟨_, rfl⟩) pa_nil)))))), ?_⟩
  have hR' : upd H r (.ins C dx (rdF tx ((p + k : Nat) : Int) nl cl pl)) r = some (.ins C dx (rdF tx ((p + k : Nat) : Int) nl cl pl)) := upd_same
  refine ⟨_, rfl, r, dx, _, rfl, hR, rfl, ⟨r, dx, nl, cl, tx, p, pl, k, rfl, hR, hl, hk, ?_⟩⟩
  refine ⟨_, rfl, r, C, dx, _, .str tx, rfl, hR', R.c, R.nt, rfl, rfl, _, rfl, r, C, dx, _, .int ((p + k : Nat) : Int), rfl, hR', R.c, R.np, rfl, tx, "offset:", _, rfl, rfl, _, rfl, ?_⟩
  rcases h with ⟨e, q⟩ | ⟨e, hw, n, hn, q⟩
  · rw [e]
    exact q
  · rw [e]
    refine ⟨_, rfl, r, C, dx, _, .int ((p + k : Nat) : Int), rfl, hR', R.c, R.np, rfl, _, rfl, by decide, ?_⟩
    refine ⟨_, _, rfl, rfl, dx, _, hR', by show 5 < 1000; omega, ?_⟩
    rw [put_place, upd_upd', show ((p + k : Nat) : Int) + (("offset:" : Str).length : Int) = ((p + k + 7 : Nat) : Int) from rfl]
    have hR2 : upd H r (.ins C dx (rdF tx ((p + k + 7 : Nat) : Int) nl cl pl)) r = some (.ins C dx (rdF tx ((p + k + 7 : Nat) : Int) nl cl pl)) := upd_same
    refine ⟨_, rfl, r, dx, _, rfl, hR2, rfl, ⟨r, dx, nl, cl, tx, p + k + 7, pl, 1, 1, n, rfl, hR2, hl, by decide, by decide, by decide, hw, fun h => absurd h (by decide), hn, ?_⟩⟩
    rw [upd_upd']
    exact q
end
end Mw

namespace Mw
open PySem L2
section
variable {P : Program} {w : World} {K : PySem.W.Frag} {mg : Str → Option Value} {base : Heap} {C : Addr}
def catV : List V := [.str "zero", .str "one", .str "two", .str "few", .str "many"]
abbrev sTq : Stmt := mth (top 26) 9
theorem scTq : FnScope ["self", "begin", "key"] ["self"] (defScope sTq) := ⟨rfl, rfl, rfl, by decide +kernel, rfl, by decide +kernel, by decide +kernel⟩
def spTq (C : Addr) : Sp := fun vs H Q _ => ∃ (r dx nl cl : Addr) (tx : Str) (p : Nat) (pl : Int) (k : Nat), vs = [.ref r] ∧ H r = some (.ins C dx (rdF tx p nl cl pl)) ∧ tx.length < 10000000 ∧ 0 < k ∧
  ((∃ n, (tl tx)[p]? = some 61 ∧ k ≤ 3 ∧ RowN figuresS (tl tx) (p + 1) k ∧ (1 < k → (tl tx)[p + 1]? ≠ some 48) ∧ intText? (mkS (((tl tx).drop (p + 1)).take k)) = some n ∧
      Q (.int n) (upd H r (.ins C dx (rdF tx ((p + 1 + k : Nat) : Int) nl cl pl)))) ∨
   (k ≤ 8 ∧ RowN lettersS (tl tx) p k ∧ (V.str (mkS (((tl tx).drop p).take k)) = V.str "other" ∨ V.str (mkS (((tl tx).drop p).take k)) ∈ catV) ∧
      Q (.str (mkS (((tl tx).drop p).take k))) (upd H r (.ins C dx (rdF tx ((p + k : Nat) : Int) nl cl pl)))))
theorem ok_tq {f fG fM fN ct : Addr} {fd fdG fdM fdN : FuncData} {tm : Tok} (F : Fun K "take_plural_key" "Reader.take_plural_key" sTq f fd) (R : RC K C) (mC : mg "CATEGORIES" = some (.ref ct)) (kC : ∀ H : Hp, SqT K H ct catV) (mF : mg "KEY_FIGURES" = some (.int 3 tm))
    (GG : FnOk P w K mg base CX0 1 fG fdG ["self"] (spSg C)) (bG : Binds K fdG ["self"] []) (mG : Meth K C "sign_ahead" fG)
    (GM : FnOk P w K mg base CX0 3 fM fdM ["self", "most"] (spTm C)) (bM : Binds K fdM ["self", "most"] []) (mM : Meth K C "take_number" fM)
    (GN : FnOk P w K mg base CX0 3 fN fdN ["self"] (spNa C)) (bN : Binds K fdN ["self"] []) (mN : Meth K C "take_name" fN) : FnOk P w K mg base CX0 4 f fd ["self"] (spTq C) := by
  refine F.ok scTq (fun vs H Q E h => ?_) (fun cdv A outer s H vs Q E hr h => ?_)
  · obtain ⟨r, dx, nl, cl, tx, p, pl, k, rfl, _⟩ := h
    rfl
  obtain ⟨r, dx, nl, cl, tx, p, pl, k, rfl, hR, hl, h0, h⟩ := h
  have nd := scTq.nd
  refine ⟨_, pss_cons (ps_if (pt_cmpR op_eq (pe_meth0 (pv 0) R.c mG GG (hr.mono (by decide)) bG .nil pass0) pe_str (nomark _))
      (pss_cons (ps_fldaug (pv 0) pe_int in_add) (pss_one (ps_ret (pe_meth (pv 0) R.c mM GM hr bM .nil pass0 (pa_cons (pe_glob rfl mF (v := .int 3) ⟨_, rfl⟩) pa_nil))))) pss_nil)
    (pss_cons (ps_set (i := 1) nd rfl (.inl rfl) (pe_fld (pv 0) rfl))
    (pss_cons (ps_set (i := 2) nd rfl (.inl rfl) (pe_meth0 (pv 0) R.c mN GN hr bN .nil pass0))
    (pss_cons (ps_if (PW.pt (pw_and (pt_cmpR op_ne (pv 2) pe_str (nomark _)) (pw_and1 (pt_cmpR op_notIn_seq (pv 2) (pe_glob rfl mC (v := .ref ct) rfl) (by rfl))))) (pss_one ps_dead) pss_nil)
    (pss_one (ps_ret (pv 2)))))), ?_⟩
  rcases h with ⟨n, hc, h3, hk, hz, hn, q⟩ | ⟨h8, hk, hw, q⟩
  · refine ⟨_, rfl, r, dx, _, rfl, hR, rfl, ⟨r, dx, nl, cl, tx, p, pl, 61, rfl, hR, hl, hc, ?_⟩⟩
    refine ⟨rfl, _, rfl, ?_⟩
    rw [show decide (V.str ⟨#[61]⟩ = V.str "=") = true from rfl]
    refine ⟨_, rfl, r, C, dx, _, .int (p : Int), rfl, hR, R.c, R.np, rfl, ?_⟩
    refine ⟨_, _, rfl, rfl, dx, _, hR, by show 5 < 1000; omega, ?_⟩
    rw [put_place, show (p : Int) + 1 = ((p + 1 : Nat) : Int) from rfl]
    have hR2 : upd H r (.ins C dx (rdF tx ((p + 1 : Nat) : Int) nl cl pl)) r = some (.ins C dx (rdF tx ((p + 1 : Nat) : Int) nl cl pl)) := upd_same
    refine ⟨_, rfl, r, dx, _, rfl, hR2, rfl, ⟨r, dx, nl, cl, tx, p + 1, pl, k, 3, n, rfl, hR2, hl, h0, h3, by decide, hk, hz, hn, ?_⟩⟩
    rw [upd_upd']
    exact q
  · obtain ⟨c0, hc0, hm0⟩ := hk.1 0 h0
    rw [Nat.add_zero] at hc0
    refine ⟨_, rfl, r, dx, _, rfl, hR, rfl, ⟨r, dx, nl, cl, tx, p, pl, c0, rfl, hR, hl, hc0, ?_⟩⟩
    refine ⟨rfl, _, rfl, ?_⟩
    rw [show decide (V.str ⟨#[c0]⟩ = V.str "=") = false from ?_]
    · refine ⟨_, rfl, r, C, dx, _, .int (p : Int), rfl, hR, R.c, R.np, rfl, ?_⟩
      refine ⟨_, rfl, r, dx, _, rfl, hR, rfl, ⟨r, dx, nl, cl, tx, p, pl, k, rfl, hR, hl, h0, h8, hk, ?_⟩⟩
      refine ⟨_, rfl, rfl, _, rfl, ?_⟩
      by_cases e : V.str (mkS (((tl tx).drop p).take k)) = V.str "other"
      · rw [decide_eq_true e]
        exact ⟨_, rfl, q⟩
      · rw [decide_eq_false e]
        have hi : inV (V.str (mkS (((tl tx).drop p).take k))) catV = true := by
          rcases hw with hw | hw
          · exact absurd hw e
          · simp only [catV, List.mem_cons, List.not_mem_nil, or_false] at hw
            rcases hw with h | h | h | h | h <;> rw [h] <;> rfl
        refine ⟨_, rfl, ct, catV, rfl, .inr (kC _), rfl, rfl, _, rfl, ?_⟩
        show (if (!inV (V.str (mkS (((tl tx).drop p).take k))) catV) = true then _ else _)
        rw [hi]
        exact ⟨_, rfl, q⟩
    · refine decide_eq_false fun e => ?_
      injection e with e
      injection e with e
      have e' : c0 = 61 := by injection e with e; injection e
      rw [e'] at hm0
      exact absurd hm0 (by decide)
end
end Mw

namespace Mw
open PySem L2
section
variable {P : Program} {w : World} {K : PySem.W.Frag} {mg : Str → Option Value} {base : Heap} {C : Addr}
/-- a sign that texts may have -/
def okC (c : Nat) : Prop := c = 10 ∨ (32 ≤ c ∧ c ≤ 126)
abbrev sIt : Stmt := top 24
theorem scIt : FnScope ["sign"] ["sign"] (defScope sIt) := ⟨rfl, rfl, rfl, by decide +kernel, rfl, by decide +kernel, by decide +kernel⟩
def spIt : Sp := fun vs H Q _ => ∃ c : Nat, vs = [.str ⟨#[c]⟩] ∧ okC c ∧ Q (.bl true) H
theorem one_lt (a b : Nat) : (decide (([a] : List Nat) < [b])) = decide (a < b) := by
  by_cases h : a < b
  · rw [decide_eq_true h]
    exact decide_eq_true (List.Lex.rel h)
  · rw [decide_eq_false h]
    refine decide_eq_false fun e => ?_
    cases e with
    | rel x => exact h x
    | cons x => cases x
theorem ok_it {f : Addr} {fd : FuncData} (F : Fun K "is_text_sign" "is_text_sign" sIt f fd) : FnOk P w K mg base CX0 1 f fd ["sign"] spIt := by
  refine F.ok scIt (fun vs H Q E h => ?_) (fun cdv A outer s H vs Q E hr h => ?_)
  · obtain ⟨c, rfl, _⟩ := h
    rfl
  obtain ⟨c, rfl, hc, q⟩ := h
  refine ⟨_, pss_one (ps_ret (pe_or (pe_cmpR op_eq (pv 0) pe_str (nomark _)) (pe_one (pe_chain op_le_str op_le_str pe_str (pv 0) pe_str)))), ?_⟩
  refine ⟨_, rfl, rfl, _, rfl, ?_⟩
  by_cases e : c = 10
  · rw [e]
    exact q
  · rw [show decide (V.str ⟨#[c]⟩ = V.str "\n") = false from ?_]
    · rcases hc with hc | ⟨h1, h2⟩
      · exact absurd hc e
      · refine ⟨_, rfl, " ", _, rfl, rfl, _, rfl, ?_⟩
        rw [show decide (((⟨#[c]⟩ : Str).cps.toList) < ((" " : Str).cps.toList)) = false from (one_lt c 32).trans (decide_eq_false (by omega))]
        refine ⟨_, "~", rfl, rfl, ?_⟩
        rw [show decide ((("~" : Str).cps.toList) < ((⟨#[c]⟩ : Str).cps.toList)) = false from (one_lt 126 c).trans (decide_eq_false (by omega))]
        exact q
    · refine decide_eq_false fun h => ?_
      injection h with h
      injection h with h
      exact e (by injection h with h; injection h)
abbrev sRs : Stmt := mth (top 26) 15
theorem scRs : FnScope ["self", "sign"] ["self"] (defScope sRs) := ⟨rfl, rfl, rfl, by decide +kernel, rfl, by decide +kernel, by decide +kernel⟩
def spRs (C : Addr) : Sp := fun vs H Q _ => ∃ (r dx nl cl : Addr) (tx : Str) (p : Nat) (pl : Int) (c : Nat) (ns xs : List V), vs = [.ref r] ∧ H r = some (.ins C dx (rdF tx p nl cl pl)) ∧ tx.length < 10000000 ∧ (tl tx)[p]? = some c ∧ H nl = some (.lst ns) ∧ ns.length < sizeLine ∧
  ((c = 35 ∧ 0 < pl ∧ xs = [.str "number"]) ∨ (okC c ∧ c ≠ 35 ∧ c ≠ 125 ∧ xs = [.str "text", .str ⟨#[c]⟩])) ∧
  ∀ t, H t = none → Q .non (upd (upd (upd H t (.tup xs)) nl (.lst (ns ++ [.ref t]))) r (.ins C dx (rdF tx ((p + 1 : Nat) : Int) nl cl pl)))
theorem ok_rs {f fG fT : Addr} {fd fdG fdT : FuncData} (F : Fun K "read_sign" "Reader.read_sign" sRs f fd) (R : RC K C)
    (GG : FnOk P w K mg base CX0 1 fG fdG ["self"] (spSg C)) (bG : Binds K fdG ["self"] []) (mG : Meth K C "sign_ahead" fG)
    (GT : FnOk P w K mg base CX0 1 fT fdT ["sign"] spIt) (bT : Binds K fdT ["sign"] []) (kT : PySem.W.keepIn K (.ref fT) = true) (mT : mg "is_text_sign" = some (.ref fT)) : FnOk P w K mg base CX0 2 f fd ["self"] (spRs C) := by
  refine F.ok scRs (fun vs H Q E h => ?_) (fun cdv A outer s H vs Q E hr h => ?_)
  · obtain ⟨r, dx, nl, cl, tx, p, pl, c, ns, xs, rfl, _⟩ := h
    rfl
  obtain ⟨r, dx, nl, cl, tx, p, pl, c, ns, xs, rfl, hR, hl, hc, hn, hnl, h, q⟩ := h
  have nd := scRs.nd
  refine ⟨_, pss_cons (ps_set (i := 1) nd rfl (.inl rfl) (pe_meth0 (pv 0) R.c mG GG hr bG .nil pass0))
    (pss_cons (ps_if (PW.pt (pw_and (pt_cmpR op_eq (pv 1) pe_str (nomark _)) (pw_and1 (pt_cmpR op_gt (pe_fld (pv 0) rfl) pe_int (nomark _)))))
      (pss_one (ps_expr (pe_bm PySem.F.plainAttrs_list PySem.F.slot_list_append PySem.F.type_list_append mt_append (pe_fld (pv 0) rfl) (pa_cons (pe_tup (pa_cons pe_str pa_nil)) pa_nil))))
      (pss_one (ps_if (PW.pt (pw_or (pt_cmpR op_in_sign (pv 1) pe_str (by rfl)) (pw_or1 (pt_not (pt_val (by exact (pe_call GT hr rfl mT kT bT .nil pass0 (pa_cons (pv 1) pa_nil))))))))
        (pss_one ps_dead)
        (pss_one (ps_expr (pe_bm PySem.F.plainAttrs_list PySem.F.slot_list_append PySem.F.type_list_append mt_append (pe_fld (pv 0) rfl) (pa_cons (pe_tup (pa_cons pe_str (pa_cons (pv 1) pa_nil))) pa_nil)))))))
    (pss_one (ps_fldaug (pv 0) pe_int in_add))), ?_⟩
  refine ⟨_, rfl, r, dx, _, rfl, hR, rfl, ⟨r, dx, nl, cl, tx, p, pl, c, rfl, hR, hl, hc, ?_⟩⟩
  have hnr : nl ≠ r := fun e => by rw [e, hR] at hn; cases hn
  have ty : tyV K "list" (.ref nl) H := .inl ⟨rfl, _, SqL.of hn⟩
  have tail : ∀ t, H t = none → t ≠ nl ∧ upd (upd H t (.tup xs)) nl (.lst (ns ++ [.ref t])) r = some (.ins C dx (rdF tx p nl cl pl)) := fun t ht =>
    have h1 : t ≠ nl := fun e => by rw [e, hn] at ht; cases ht
    have h2 : r ≠ t := fun e => by rw [← e, hR] at ht; cases ht
    ⟨h1, by rw [upd_ne hnr.symm, upd_ne h2]; exact hR⟩
  have hz : ∀ t, H t = none → upd H t (.tup xs) nl = some (.lst ns) := fun t ht => by rw [upd_ne (tail t ht).1.symm]; exact hn
  refine ⟨_, rfl, rfl, _, rfl, ?_⟩
  rcases h with ⟨rfl, hpl, rfl⟩ | ⟨ho, h35, h125, rfl⟩
  · rw [show decide (V.str ⟨#[35]⟩ = V.str "#") = true from rfl]
    refine ⟨_, rfl, r, C, dx, _, .int pl, rfl, hR, R.c, R.nu, rfl, _, _, rfl, rfl, _, rfl, ?_⟩
    rw [decide_eq_true hpl]
    refine ⟨_, rfl, r, C, dx, _, .ref nl, rfl, hR, R.c, R.nn, rfl, ty, by show 1 ≤ sizeLine; decide, fun t ht => ⟨nl, ns, _, rfl, rfl, hz t ht, hnl, ?_⟩⟩
    refine ⟨_, rfl, r, C, dx, _, .int (p : Int), rfl, (tail t ht).2, R.c, R.np, rfl, _, _, rfl, rfl, dx, _, (tail t ht).2, by show 5 < 1000; omega, ?_⟩
    rw [put_place]
    exact q t ht
  · rw [show decide (V.str ⟨#[c]⟩ = V.str "#") = false from ?_]
    · refine ⟨_, rfl, c, "}#", rfl, rfl, _, rfl, ?_⟩
      rw [show decide (c ∈ ("}#" : Str).cps.toList) = false from ?_]
      · refine ⟨_, rfl, ⟨c, rfl, ho, _, rfl, ?_⟩⟩
        refine ⟨_, rfl, r, C, dx, _, .ref nl, rfl, hR, R.c, R.nn, rfl, ty, _, rfl, by show 2 ≤ sizeLine; decide, fun t ht => ⟨nl, ns, _, rfl, rfl, hz t ht, hnl, ?_⟩⟩
        refine ⟨_, rfl, r, C, dx, _, .int (p : Int), rfl, (tail t ht).2, R.c, R.np, rfl, _, _, rfl, rfl, dx, _, (tail t ht).2, by show 5 < 1000; omega, ?_⟩
        rw [put_place]
        exact q t ht
      · refine decide_eq_false fun e => ?_
        rw [show ("}#" : Str).cps.toList = [125, 35] from rfl] at e
        simp only [List.mem_cons, List.not_mem_nil, or_false] at e
        omega
    · refine decide_eq_false fun h => h35 ?_
      injection h with h
      injection h with h
      injection h with h
      injection h
end
end Mw

/-! for k in d, d a dict that the module wrote -/
namespace Kg
open PySem PySem.Spec PyProof.Rows L2
def KeysAre (es : Array DictEntry) (ks : List Str) : Prop := es.size = ks.length ∧ ∀ i k, ks[i]? = some k → ∃ (hi : i < es.size) (t : Tok), es[i].key = .str k t
def Itkk (ks : List Str) : It := ⟨fun i _ => i < ks.length, fun i H x H' => H' = H ∧ ∃ k, ks[i]? = some k ∧ x = .str k, fun i _ => ks.length ≤ i⟩
def iKKeys (d : Addr) (ks : List Str) (td : TE) : TI := fun σ H R => td σ H fun x H1 => x = .ref d ∧ R (Itkk ks) H1
section
variable {P : Program} {w : World} {K : PySem.W.Frag} {tg : Expr} {d : Addr} {es : Array DictEntry} {n : Nat} {ks : List Str}
theorem turn_kkeys (D : KDict K w d es n) (hk : KeysAre es ks) (it : Addr) : Turn P w K tg (Itkk ks) [it] it (fun i h => h.IsKeyIter it d i es.size n) where
  mem := by simp
  obj := fun i h st b hb => by
    have e : b = it := by simpa using hb
    subst e
    obtain ⟨oi, e, c, dd⟩ := st
    exact ⟨oi, e, fun v z => by rw [dd] at z; cases z⟩
  keep := fun i h h' st k => st.at fun oi e => k it (by simp) oi e
  item := by
    intro X hP hw hK hc i pins s σ H E I hf st hg
    subst hP hw hK
    obtain ⟨f0, f1, f2, f3, f4, f5⟩ := hf it (by simp)
    have hd : s.heap.get? d = some ⟨.type "dict", none, .dict es n, #[]⟩ := I.kIn _ _ D.at_
    have hr : s.heap.DictRaw d es n := ⟨_, hd, ⟨rfl, rfl, rfl⟩, rfl⟩
    have hks : ks[i]? = some (ks[i]'hg) := List.getElem?_eq_getElem hg
    obtain ⟨hi, t, hkey⟩ := hk.2 i _ hks
    refine wpAny_pyNext_keys_item_raw st hr hi fun h' st' sb => ?_
    have I1 : Inv X pins σ H { s with heap := h' } := I.turned (t' := s.toks) (fun b ob hb e => (sb.2 b hb).trans e) f0 f1 f3 f4 f5
    obtain ⟨oi, e, c, dd⟩ := id st'
    exact ⟨_, rfl, go_of (s := { s with heap := h' }) e c dd (by decide) ⟨.str (ks[i]'hg), H, I1, by rw [hkey]; exact ⟨t, rfl⟩, ⟨rfl, _, hks, rfl⟩, st', fun b hb => (hf b hb).1⟩⟩
  done := by
    intro X hP hw hK hc i pins s σ H E I hf st hg
    subst hP hw hK
    obtain ⟨f0, f1, f2, f3, f4, f5⟩ := hf it (by simp)
    have hd : s.heap.get? d = some ⟨.type "dict", none, .dict es n, #[]⟩ := I.kIn _ _ D.at_
    exact next_key_end (I.ok.hd hc) st hd rfl rfl (by rw [hk.1]; exact hg) fun h' eb => ⟨rfl, I.turned (t' := s.toks) (fun b ob hb e => eb b ob hb e) f0 f1 f3 f4 f5⟩
  self := fun A i s Q E st h => wpAny_pyIter_keyiter st h
end
section
variable {X : Cx} {tg e : Expr} {td : TE} {d : Addr} {es : Array DictEntry} {n : Nat} {ks : List Str}
theorem pi_kkeys (D : KDict X.K X.w d es n) (hk : KeysAre es ks) (he : PE X e td) : PI X tg e (iKKeys d ks td) := by
  refine ⟨fun pins s σ H R I h => ?_⟩
  refine thn (he.run pins s σ H _ I h) fun u s1 ⟨x, H1, I1, rx, ex, q⟩ => ?_
  subst ex
  obtain rfl : u = Value.ref d := rx
  have hd : s1.heap.get? d = some ⟨.type "dict", none, .dict es n, #[]⟩ := I1.kIn _ _ D.at_
  exact iter_keys D.low hd ⟨rfl, rfl, rfl⟩ rfl (pi_one (tk := s1.toks) I1 _ (turn_kkeys D hk _) ⟨_, Heap.get?_push_size _ rfl, rfl, rfl⟩ q)
end
end Kg

namespace Mw
open PySem L2
section
variable {P : Program} {w : World} {K : PySem.W.Frag} {mg : Str → Option Value} {base : Heap} {C : Addr}
def escN : List Nat := [39, 123, 125, 35]
def escKs : List Str := escN.map fun c => ⟨#[c]⟩
abbrev sRe : Stmt := mth (top 26) 14
theorem scRe : FnScope ["self", "sign"] ["self"] (defScope sRe) := ⟨rfl, rfl, rfl, by decide +kernel, rfl, by decide +kernel, by decide +kernel⟩
def spRe (C : Addr) : Sp := fun vs H Q _ => ∃ (r dx nl cl : Addr) (tx : Str) (p : Nat) (pl : Int) (c j : Nat) (ns : List V), vs = [.ref r] ∧ H r = some (.ins C dx (rdF tx p nl cl pl)) ∧ tx.length < 10000000 ∧ H nl = some (.lst ns) ∧ ns.length < sizeLine ∧
  escN[j]? = some c ∧ (∀ i < j, ∀ k, escN[i]? = some k → Txt.startswith3 tx (mkS (escC k)) (p : Int) = false) ∧ Txt.startswith3 tx (mkS (escC c)) (p : Int) = true ∧
  ∀ t, H t = none → Q .non (upd (upd (upd H r (.ins C dx (rdF tx ((p + (escC c).length : Nat) : Int) nl cl pl))) t (.tup [.str "text", .str ⟨#[c]⟩])) nl (.lst (ns ++ [.ref t])))
theorem ok_re {f ed : Addr} {fd : FuncData} {es : Array DictEntry} {n : Nat} (F : Fun K "read_escape" "Reader.read_escape" sRe f fd) (R : RC K C) (A1 : EA K mg w ed es n) (hk : Kg.KeysAre es escKs)
    (A2 : ∀ c ∈ escN, ∃ u, PySem.W.nsIn K ed ⟨#[c]⟩ = some (some u) ∧ RelV (.str (mkS (escC c))) u) (ml : mg "len" = none) : FnOk P w K mg base CX0 1 f fd ["self"] (spRe C) := by
  refine F.ok scRe (fun vs H Q E h => ?_) (fun cdv A outer s H vs Q E hr h => ?_)
  · obtain ⟨r, dx, nl, cl, tx, p, pl, c, j, ns, rfl, _⟩ := h
    rfl
  obtain ⟨r, dx, nl, cl, tx, p, pl, c, j, ns, rfl, hR, hl, hn, hnl, hj, hlo, hhi, q⟩ := h
  have nd := scRe.nd
  refine ⟨_, pss_cons (ps_for PassesOwn.never rfl (Kg.pi_kkeys A1.d hk (pe_glob rfl A1.g (v := .ref ed) rfl)) (pg_name (i := 1) nd rfl (.inl rfl))
      (pss_one (ps_if (pt_val (by exact (pe_bm PySem.F.plainAttrs_str PySem.F.slot_str_startswith PySem.F.type_str_startswith mt_startswith3 (pe_fld (pv 0) rfl) (pa_cons (pe_ix ix_kdict (pe_glob rfl A1.g (v := .ref ed) rfl) (pv 1) (fun _ _ => rfl)) (pa_cons (pe_fld (pv 0) rfl) pa_nil)))))
        (pss_cons (ps_fldaug (pv 0) (pe_callB call_len_str (by rfl) ml PySem.boot_len (pa_cons (pe_ix ix_kdict (pe_glob rfl A1.g (v := .ref ed) rfl) (pv 1) (fun _ _ => rfl)) pa_nil)) in_add)
        (pss_cons (ps_expr (pe_bm PySem.F.plainAttrs_list PySem.F.slot_list_append PySem.F.type_list_append mt_append (pe_fld (pv 0) rfl) (pa_cons (pe_tup (pa_cons pe_str (pa_cons (pv 1) pa_nil))) pa_nil)))
        (pss_one ps_retN)))
        pss_nil)))
    (pss_one ps_dead), ?_⟩
  have hjl : j < escN.length := (List.getElem?_eq_some_iff.mp hj).1
  have KD : ∀ k ∈ escN, KDct K w ed ⟨#[k]⟩ (.str (mkS (escC k))) := fun k hk' => by
    obtain ⟨u, e1, e2⟩ := A2 k hk'
    exact ⟨es, n, u, A1.d.at_, A1.d.lit, e1, e2⟩
  refine ⟨rfl, fun i m σ H' => i ≤ j ∧ m = j + 1 - i ∧ (∃ o1, σ = [some (.ref r), o1]) ∧ H' = H, ⟨j + 1, by omega, by omega, ⟨none, rfl⟩, rfl⟩, ?_⟩
  rintro i m σ H' ⟨hij, rfl, ⟨o1, rfl⟩, rfl⟩
  refine .inr ⟨by show i < escKs.length; rw [show escKs.length = escN.length from List.length_map ..]; omega, fun σ' H1 => σ' = [some (.ref r), some (.str ⟨#[escN.getD i 0]⟩)] ∧ H1 = H' ∧ i + 1 ≤ j, ?_, ?_⟩
  · rintro σ' H1 ⟨e1, e2, e3⟩
    exact ⟨j + 1 - (i + 1), by omega, e3, rfl, ⟨_, e1⟩, e2⟩
  rintro x H1 ⟨rfl, k', hk', rfl⟩
  obtain ⟨k, hki, rfl⟩ : ∃ k, escN[i]? = some k ∧ k' = ⟨#[k]⟩ := by
    rw [show escKs = escN.map fun c => ⟨#[c]⟩ from rfl, List.getElem?_map] at hk'
    cases e : escN[i]? with
    | none => rw [e] at hk'; cases hk'
    | some k => rw [e] at hk'; exact ⟨k, rfl, by cases hk'; rfl⟩
  have hkm : k ∈ escN := List.mem_of_getElem? hki
  have hgd : escN.getD i 0 = k := by rw [List.getD_eq_getElem?_getD, hki]; rfl
  refine ⟨_, rfl, r, C, dx, _, .str tx, rfl, hR, R.c, R.nt, rfl, rfl, _, rfl, ed, _, _, rfl, rfl, KD k hkm, _, rfl, r, C, dx, _, .int (p : Int), rfl, hR, R.c, R.np, rfl, tx, _, _, rfl, rfl, _, rfl, ?_⟩
  rcases Nat.lt_or_ge i j with hlt | hge
  · rw [hlo i hlt k hki]
    exact ⟨by rw [hgd]; rfl, rfl, hlt⟩
  · have : i = j := by omega
    subst this
    rw [hki] at hj
    cases hj
    rw [hhi]
    have hnr : nl ≠ r := fun e => by rw [e, hR] at hn; cases hn
    have h3 : (mkS (escC c)).length ≤ 10 := by
      rw [len_tl', tl_mk]
      exact Nat.le_trans (escC_len c) (by decide)
    refine ⟨_, rfl, r, C, dx, _, .int (p : Int), rfl, hR, R.c, R.np, rfl, _, rfl, ed, _, _, rfl, rfl, KD c hkm, _, rfl, Nat.le_trans h3 (by decide), ?_⟩
    refine ⟨_, _, rfl, rfl, dx, _, hR, by show 5 < 1000; omega, ?_⟩
    rw [put_place, show (p : Int) + ((mkS (escC c)).length : Int) = ((p + (escC c).length : Nat) : Int) from by rw [len_tl', tl_mk]; rfl]
    have hR2 : upd H1 r (.ins C dx (rdF tx ((p + (escC c).length : Nat) : Int) nl cl pl)) r = some (.ins C dx (rdF tx ((p + (escC c).length : Nat) : Int) nl cl pl)) := upd_same
    have hn2 : upd H1 r (.ins C dx (rdF tx ((p + (escC c).length : Nat) : Int) nl cl pl)) nl = some (.lst ns) := by rw [upd_ne hnr]; exact hn
    refine ⟨_, rfl, r, C, dx, _, .ref nl, rfl, hR2, R.c, R.nn, rfl, .inl ⟨rfl, _, SqL.of hn2⟩, _, rfl, by show 2 ≤ sizeLine; decide, fun t ht => ⟨nl, ns, _, rfl, rfl, ?_, hnl, ?_⟩⟩
    · rw [upd_ne (fun e => by rw [← e, hn2] at ht; cases ht)]
      exact hn2
    · exact q t (upd_none ht)
end
end Mw

namespace Mw
open PySem L2
/-! ### an open choice -/
def ocF (hd ar cs : Addr) (key : V) : List (Str × V) := [("head", .ref hd), ("around", .ref ar), ("cases", .ref cs), ("key", key)]
theorem put_key (hd ar cs : Addr) (k k' : V) : putF "key" k' (ocF hd ar cs k) = ocF hd ar cs k' := rfl
/-- what the row says of the class OpenChoice -/
structure OC (K : PySem.W.Frag) (C : Addr) : Prop where
  c : Cls K C
  nh : NoAttr K C "head"
  na : NoAttr K C "around"
  nc : NoAttr K C "cases"
  nk : NoAttr K C "key"
section
variable {P : Program} {w : World} {K : PySem.W.Frag} {mg : Str → Option Value} {base : Heap} {C : Addr}
abbrev sOi : Stmt := mth (top 25) 0
theorem scOi : FnScope ["self", "head", "around"] ["self", "head", "around"] (defScope sOi) := ⟨rfl, rfl, rfl, by decide +kernel, rfl, by decide +kernel, by decide +kernel⟩
def spOi (C : Addr) : Sp := fun vs H Q _ => ∃ (r dx hd ar : Addr), vs = [.ref r, .ref hd, .ref ar] ∧ H r = some (.ins C dx []) ∧ ∀ d, H d = none → Q .non (upd (upd H d (.dK [])) r (.ins C dx (ocF hd ar d .non)))
theorem ok_oi {f : Addr} {fd : FuncData} (F : Fun K "__init__" "OpenChoice.__init__" sOi f fd) (R : OC K C) : FnOk P w K mg base CX0 1 f fd ["self", "head", "around"] (spOi C) := by
  refine F.ok scOi (fun vs H Q E h => ?_) (fun cdv A outer s H vs Q E hr h => ?_)
  · obtain ⟨r, dx, hd, ar, rfl, _⟩ := h
    rfl
  obtain ⟨r, dx, hd, ar, rfl, hR, q⟩ := h
  refine ⟨_, pss_cons (ps_fld (pv 0) (pv 1) rfl) (pss_cons (ps_fld (pv 0) (pv 2) rfl) (pss_cons (ps_fld (pv 0) pe_dnewK rfl) (pss_one (ps_fld (pv 0) pe_non rfl)))), ?_⟩
  refine ⟨_, rfl, _, rfl, r, C, dx, _, rfl, hR, R.c, R.nh, by show 0 < 1000; decide, ?_⟩
  refine ⟨_, rfl, _, rfl, r, C, dx, _, rfl, upd_same, R.c, R.na, by show 1 < 1000; decide, ?_⟩
  rw [upd_upd']
  refine fun d hd' => ?_
  have hd0 : H d = none := upd_none hd'
  have hne : r ≠ d := fun e => by rw [← e, hR] at hd0; cases hd0
  refine ⟨_, rfl, r, C, dx, _, rfl, by rw [upd_ne hne]; exact upd_same, R.c, R.nc, by show 2 < 1000; decide, ?_⟩
  refine ⟨_, rfl, r, C, dx, _, rfl, upd_same, R.c, R.nk, by show 3 < 1000; decide, ?_⟩
  rw [upd_upd']
  rw [show ∀ o o' o'', upd (upd (upd H r o) d o') r o'' = upd (upd H d o') r o'' from fun o o' o'' => ?_]
  · exact q d hd0
  · funext b
    by_cases e : b = r
    · rw [e, upd_same, upd_same]
    · rw [upd_ne e, upd_ne e]
      by_cases e2 : b = d
      · rw [e2, upd_same, upd_same]
      · rw [upd_ne e2, upd_ne e2, upd_ne e]
theorem paired_mono {α β : Type} {R S : α → β → Prop} (h : ∀ a b, R a b → S a b) : ∀ {l : List α} {m : List β}, Paired R l m → Paired S l m
  | _, _, .nil => .nil
  | _, _, .cons x t => .cons (h _ _ x) (paired_mono h t)
abbrev sOd : Stmt := mth (top 25) 1
theorem scOd : FnScope ["self", "other"] ["self", "other"] (defScope sOd) := ⟨rfl, rfl, rfl, by decide +kernel, rfl, by decide +kernel, by decide +kernel⟩
def spOd (C : Addr) : Sp := fun vs H Q _ => ∃ (r dx hd ar cs m : Addr) (key : V) (hs : List V) (kvs : List (L2.Key × V)), vs = [.ref r, .ref m] ∧ H r = some (.ins C dx (ocF hd ar cs key)) ∧ H hd = some (.tup hs) ∧ hs ≠ [] ∧ hs.length ≤ 3 ∧ H cs = some (.dK kvs) ∧
  ∀ (H' : Hp) (t l : Addr) (ts : List Addr), Same H H' → H t = none → H l = none → (∀ u ∈ ts, H u = none) → l ∉ ts → H' t = some (.tup (hs ++ [.ref l, .ref m])) → H' l = some (.lst (ts.map V.ref)) → Paired (fun (u : Addr) (q : L2.Key × V) => H' u = some (.tup [kV q.1, q.2])) ts kvs → Q (.ref t) H'
theorem ok_od {f : Addr} {fd : FuncData} (F : Fun K "closed" "OpenChoice.closed" sOd f fd) (R : OC K C) (ml : mg "list" = none) : FnOk P w K mg base CX0 1 f fd ["self", "other"] (spOd C) := by
  refine F.ok scOd (fun vs H Q E h => ?_) (fun cdv A outer s H vs Q E hr h => ?_)
  · obtain ⟨r, dx, hd, ar, cs, m, key, hs, kvs, rfl, _⟩ := h
    rfl
  obtain ⟨r, dx, hd, ar, cs, m, key, hs, kvs, rfl, hR, hh, hne, h3, hc, q⟩ := h
  refine ⟨_, pss_one (ps_ret (pe_op op_catT (pe_fld (pv 0) rfl) (pe_tup (pa_cons (LiI.pe_listItems rfl (pe_fld (pv 0) rfl) rfl ml (by decide +kernel)) (pa_cons (pv 1) pa_nil))))), ?_⟩
  refine ⟨_, rfl, r, C, dx, _, .ref hd, rfl, hR, R.c, R.nh, rfl, _, rfl, r, C, dx, _, .ref cs, rfl, hR, R.c, R.nc, rfl, cs, kvs, rfl, hc, ?_⟩
  intro H' p ts k1 k2 k3 k4 k5 k6
  refine ⟨_, rfl, by show 2 ≤ sizeLine; decide, fun p2 h2 => ?_⟩
  have s1 : Same H' (upd H' p2 (.tup [.ref p, .ref m])) := same_new h2 _
  refine ⟨hd, p2, hs, [.ref p, .ref m], rfl, rfl, .inl (.inl (s1 _ _ (k1 _ _ hh))), .inl (.inl upd_same), hne, ?_, (fun e => by cases e), fun _ p3 h4 => ?_⟩
  · show hs.length + 2 ≤ sizeLine
    exact Nat.le_trans (Nat.add_le_add_right h3 2) (by decide)
  · have s2 := s1.trans (same_new h4 (.tup (hs ++ [.ref p, .ref m])))
    refine q _ p3 p ts ((show Same H H' from k1).trans s2) (Same.free (show Same H H' from k1) (upd_none h4)) k2 k3 k4 upd_same (s2 _ _ k5) ?_
    exact paired_mono (fun u q h => s2 _ _ h) k6
end
end Mw

namespace Mw
open PySem L2
section
variable {P : Program} {w : World} {K : PySem.W.Frag} {mg : Str → Option Value} {base : Heap} {C C2 : Addr}
/-- a key stands from p to q -/
def KeyAt (l : List Nat) (p : Nat) (b : Bool) (y : V) (q : Nat) : Prop := ∃ k, 0 < k ∧
  ((b = true ∧ ∃ n, y = .int n ∧ q = p + 1 + k ∧ l[p]? = some 61 ∧ k ≤ 3 ∧ RowN figuresS l (p + 1) k ∧ (1 < k → l[p + 1]? ≠ some 48) ∧ intText? (mkS ((l.drop (p + 1)).take k)) = some n) ∨
   (q = p + k ∧ k ≤ 8 ∧ RowN lettersS l p k ∧ y = .str (mkS ((l.drop p).take k)) ∧ (b = true → y = .str "other" ∨ y ∈ catV)))
abbrev sBc : Stmt := mth (top 26) 10
theorem scBc : FnScope ["self", "choice", "begin", "key"] ["self"] (defScope sBc) := ⟨rfl, rfl, rfl, by decide +kernel, rfl, by decide +kernel, by decide +kernel⟩
def spBc (C C2 : Addr) : Sp := fun vs H Q _ => ∃ (r dx nl cl o dx2 hd ar cs : Addr) (tx : Str) (p : Nat) (pl : Int) (c0 hs : List V) (key0 : V) (kvs : List (L2.Key × V)) (b : Bool) (y : L2.Key) (k0 q k1 : Nat),
  vs = [.ref r] ∧ H r = some (.ins C dx (rdF tx p nl cl pl)) ∧ tx.length < 10000000 ∧ H cl = some (.lst (c0 ++ [.ref o])) ∧ H o = some (.ins C2 dx2 (ocF hd ar cs key0)) ∧ H hd = some (.tup (.str (kindS b) :: hs)) ∧ H cs = some (.dK kvs) ∧ o ≠ r ∧
  SpN (tl tx) p k0 ∧ KeyAt (tl tx) (p + k0) b (kV y) q ∧ valV kvs y = none ∧ SpN (tl tx) q k1 ∧ (tl tx)[q + k1]? = some 123 ∧
  ∀ t, H t = none → Q .non (upd (upd (upd H o (.ins C2 dx2 (ocF hd ar cs (kV y)))) t (.lst [])) r (.ins C dx (rdF tx ((q + k1 + 1 : Nat) : Int) t cl pl)))
theorem ok_bc {f fK fQ fN fS : Addr} {fd fdK fdQ fdN fdS : FuncData} (F : Fun K "begin_case" "Reader.begin_case" sBc f fd) (R : RC K C) (R2 : OC K C2)
    (GK : FnOk P w K mg base CX0 1 fK fdK ["self"] (spSk C)) (bK : Binds K fdK ["self"] []) (mK : Meth K C "skip_spaces" fK)
    (GQ : FnOk P w K mg base CX0 4 fQ fdQ ["self"] (spTq C)) (bQ : Binds K fdQ ["self"] []) (mQ : Meth K C "take_plural_key" fQ)
    (GN : FnOk P w K mg base CX0 3 fN fdN ["self"] (spNa C)) (bN : Binds K fdN ["self"] []) (mN : Meth K C "take_name" fN)
    (GS : FnOk P w K mg base CX0 2 fS fdS ["self", "sign"] (spTs C)) (bS : Binds K fdS ["self", "sign"] []) (mS : Meth K C "take_sign" fS) : FnOk P w K mg base CX0 5 f fd ["self"] (spBc C C2) := by
  refine F.ok scBc (fun vs H Q E h => ?_) (fun cdv A outer s H vs Q E hr h => ?_)
  · obtain ⟨r, dx, nl, cl, o, dx2, hd, ar, cs, tx, p, pl, c0, hs, key0, kvs, b, y, k0, q, k1, rfl, _⟩ := h
    rfl
  obtain ⟨r, dx, nl, cl, o, dx2, hd, ar, cs, tx, p, pl, c0, hs, key0, kvs, b, y, k0, e, k1, rfl, hR, hl, hcl, ho, hh, hcs, hor, hk0, hka, hv, hk1, hc1, q⟩ := h
  have nd := scBc.nd
  have hu := Nat.lt_of_le_of_lt (Nat.add_le_add_left (show 1 ≤ 64 from by decide) _) hr.units
  refine ⟨_, pss_cons (ps_set (i := 1) nd rfl (.inl rfl) (pe_ix ix_list (pe_fld (pv 0) rfl) (pe_un un_neg pe_int) (fun _ _ => rfl)))
    (pss_cons (ps_expr (pe_meth0 (pv 0) R.c mK GK (hr.mono (by decide)) bK .nil pass0))
    (pss_cons (ps_set (i := 2) nd rfl (.inl rfl) (pe_fld (pv 0) rfl))
    (pss_cons (ps_set (i := 3) nd rfl (.inl rfl) (pe_ifExp (pt_cmpR op_eq (pe_ix ix_tup (pe_fld (pv 1) rfl) pe_int (fun _ _ => rfl)) pe_str (nomark _))
        (pe_meth0 (pv 0) R.c mQ GQ hr bQ .nil pass0) (pe_meth0 (pv 0) R.c mN GN (hr.mono (by decide)) bN .nil pass0)))
    (pss_cons (ps_if (pt_cmp (pc_din hu (pv 3) (pe_fld (pv 1) rfl))) (pss_one ps_dead) pss_nil)
    (pss_cons (ps_fld (pv 1) (pv 3) rfl)
    (pss_cons (ps_expr (pe_meth (pv 0) R.c mS GS (hr.mono (by decide)) bS .nil pass0 (pa_cons pe_str pa_nil)))
    (pss_one (ps_fld (pv 0) (pe_lst pa_nil) rfl)))))))), ?_⟩
  have hat : atI (c0 ++ [V.ref o]) (-1) = some (.ref o) := by
    simp only [atI, ixN, List.length_append, List.length_cons, List.length_nil]
    rw [if_neg (by omega), if_pos (by omega)]
    show (c0 ++ [V.ref o])[_]? = _
    rw [show ((-1 : Int) + ((c0.length + (0 + 1) : Nat) : Int)).toNat = c0.length from by omega]
    simp
  have ne : ∀ {a : Addr} {u : HO}, H a = some u → (∀ C dx fs, u ≠ .ins C dx fs) → a ≠ r := fun h z e => by
    rw [e, hR] at h
    cases h
    exact z _ _ _ rfl
  refine ⟨_, rfl, r, C, dx, _, .ref cl, rfl, hR, R.c, R.nc, rfl, 1, rfl, cl, _, -1, .ref o, rfl, rfl, SqL.of hcl, hat, ?_⟩
  refine ⟨_, rfl, r, dx, _, rfl, hR, rfl, ⟨r, dx, nl, cl, tx, p, pl, k0, rfl, hR, hl, hk0, ?_⟩⟩
  let H1 : Hp := upd H r (.ins C dx (rdF tx ((p + k0 : Nat) : Int) nl cl pl))
  have hR1 : H1 r = some (.ins C dx (rdF tx ((p + k0 : Nat) : Int) nl cl pl)) := upd_same
  have ho1 : H1 o = some (.ins C2 dx2 (ocF hd ar cs key0)) := by show upd H r _ o = _; rw [upd_ne hor]; exact ho
  have hh1 : H1 hd = some (.tup (.str (kindS b) :: hs)) := by show upd H r _ hd = _; rw [upd_ne (ne hh fun _ _ _ z => by cases z)]; exact hh
  refine ⟨_, rfl, r, C, dx, _, .int ((p + k0 : Nat) : Int), rfl, hR1, R.c, R.np, rfl, ?_⟩
  let H2 : Hp := upd H r (.ins C dx (rdF tx (e : Int) nl cl pl))
  have hR2 : H2 r = some (.ins C dx (rdF tx (e : Int) nl cl pl)) := upd_same
  have ho2 : H2 o = some (.ins C2 dx2 (ocF hd ar cs key0)) := by show upd H r _ o = _; rw [upd_ne hor]; exact ho
  have hc2 : H2 cs = some (.dK kvs) := by show upd H r _ cs = _; rw [upd_ne (ne hcs fun _ _ _ z => by cases z)]; exact hcs
  have key : ∀ Q' : VK, Q' (kV y) H2 → tIf (tTest (tOp rEq (tOp (rIxT K) (tFld K (tVar 1) "head") (tC (.int 0))) (tC (.str "plural")))) (tMeth C "take_plural_key" (spTq C) [] E0 (tVar 0) tNil) (tMeth C "take_name" (spNa C) [] E0 (tVar 0) tNil)
      [some (.ref r), some (.ref o), some (.int ((p + k0 : Nat) : Int)), none] H1 Q' := fun Q' q' => by
    refine ⟨_, rfl, o, C2, dx2, _, .ref hd, rfl, ho1, R2.c, R2.nh, rfl, hd, _, 0, .str (kindS b), rfl, rfl, .inl (.inl hh1), atI_nat (j := 0) rfl, rfl, _, rfl, ?_⟩
    obtain ⟨k, h0, hka⟩ := hka
    cases b with
    | true =>
      rw [show decide (V.str (kindS true) = V.str "plural") = true from rfl]
      refine ⟨_, rfl, r, dx, _, rfl, hR1, rfl, ⟨r, dx, nl, cl, tx, p + k0, pl, k, rfl, hR1, hl, h0, ?_⟩⟩
      rcases hka with ⟨_, n, hy, he, h1, h2, h3, h4, h5⟩ | ⟨he, h1, h2, h3, h4⟩
      · refine .inl ⟨n, h1, h2, h3, h4, h5, ?_⟩
        rw [upd_upd', ← he, ← hy]
        exact q'
      · refine .inr ⟨h1, h2, ?_, ?_⟩
        · rw [← h3]
          exact h4 rfl
        · rw [upd_upd', ← he, ← h3]
          exact q'
    | false =>
      rw [show decide (V.str (kindS false) = V.str "plural") = false from rfl]
      rcases hka with ⟨z, _⟩ | ⟨he, h1, h2, h3, h4⟩
      · cases z
      · refine ⟨_, rfl, r, dx, _, rfl, hR1, rfl, ⟨r, dx, nl, cl, tx, p + k0, pl, k, rfl, hR1, hl, h0, h1, h2, ?_⟩⟩
        rw [upd_upd', ← he, ← h3]
        exact q'
  refine key _ ?_
  refine ⟨_, rfl, _, rfl, o, C2, dx2, _, .ref cs, rfl, ho2, R2.c, R2.nc, rfl, cs, none, rfl, by rw [← hv]; exact DGet.k hc2, _, rfl, ?_⟩
  refine ⟨_, rfl, _, rfl, o, C2, dx2, _, rfl, ho2, R2.c, R2.nk, by show 4 < 1000; decide, ?_⟩
  rw [put_key]
  let H3 : Hp := upd H2 o (.ins C2 dx2 (ocF hd ar cs (kV y)))
  have hR3 : H3 r = some (.ins C dx (rdF tx (e : Int) nl cl pl)) := by show upd H2 o _ r = _; rw [upd_ne hor.symm]; exact hR2
  refine ⟨_, rfl, r, dx, _, rfl, hR3, rfl, ⟨r, dx, nl, cl, tx, e, pl, k1, 123, rfl, hR3, hl, hk1, hc1, ?_⟩⟩
  refine ⟨by decide, fun t ht => ?_⟩
  have ht3 : H3 t = none := upd_none ht
  have ht2 : H2 t = none := upd_none ht3
  have ht0 : H t = none := upd_none ht2
  have htr : t ≠ r := fun z => by rw [z, hR] at ht0; cases ht0
  refine ⟨_, rfl, r, C, dx, _, rfl, by rw [upd_ne htr.symm]; exact upd_same, R.c, R.nn, by show 5 < 1000; decide, ?_⟩
  rw [put_nodes]
  have hto : t ≠ o := fun z => by rw [z, ho] at ht0; cases ht0
  have := q t ht0
  refine cast (congrArg (Q V.non) ?_) this
  funext a
  by_cases e1 : a = r
  · rw [e1, upd_same, upd_same]
  · rw [upd_ne e1, upd_ne e1]
    by_cases e2 : a = t
    · rw [e2, upd_same, upd_same]
    · rw [upd_ne e2, upd_ne e2, upd_ne e1]
      by_cases e3 : a = o
      · rw [e3, upd_same]; exact upd_same.symm
      · show upd H o _ a = upd H2 o _ a
        rw [upd_ne e3, upd_ne e3]
        show H a = upd H r _ a
        rw [upd_ne e1]
end
end Mw

namespace Mw
open PySem L2
section
variable {P : Program} {w : World} {K : PySem.W.Frag} {mg : Str → Option Value} {base : Heap} {C C2 : Addr}
abbrev sRi : Stmt := mth (top 26) 0
theorem scRi : FnScope ["self", "text"] ["self", "text"] (defScope sRi) := ⟨rfl, rfl, rfl, by decide +kernel, rfl, by decide +kernel, by decide +kernel⟩
def spRi (C : Addr) : Sp := fun vs H Q _ => ∃ (r dx : Addr) (tx : Str), vs = [.ref r, .str tx] ∧ H r = some (.ins C dx []) ∧
  ∀ (H' : Hp) (nl cl : Addr), (∀ a u, H a = some u → a ≠ r → H' a = some u) → H nl = none → H cl = none → H' nl = some (.lst []) → H' cl = some (.lst []) → nl ≠ cl → H' r = some (.ins C dx (rdF tx 0 nl cl 0)) → Q .non H'
theorem ok_ri {f : Addr} {fd : FuncData} (F : Fun K "__init__" "Reader.__init__" sRi f fd) (R : RC K C) : FnOk P w K mg base CX0 1 f fd ["self", "text"] (spRi C) := by
  refine F.ok scRi (fun vs H Q E h => ?_) (fun cdv A outer s H vs Q E hr h => ?_)
  · obtain ⟨r, dx, tx, rfl, _⟩ := h
    rfl
  obtain ⟨r, dx, tx, rfl, hR, q⟩ := h
  refine ⟨_, pss_cons (ps_fld (pv 0) (pv 1) rfl) (pss_cons (ps_fld (pv 0) pe_int rfl) (pss_cons (ps_fld (pv 0) (pe_lst pa_nil) rfl) (pss_cons (ps_fld (pv 0) (pe_lst pa_nil) rfl) (pss_one (ps_fld (pv 0) pe_int rfl))))), ?_⟩
  refine ⟨_, rfl, _, rfl, r, C, dx, _, rfl, hR, R.c, R.nt, by show 0 < 1000; decide, ?_⟩
  refine ⟨_, rfl, r, C, dx, _, rfl, upd_same, R.c, R.np, by show 1 < 1000; decide, ?_⟩
  rw [upd_upd']
  refine ⟨by decide, fun nl hn => ?_⟩
  have hn0 : H nl = none := upd_none hn
  have hnr : r ≠ nl := fun e => by rw [← e, hR] at hn0; cases hn0
  refine ⟨_, rfl, r, C, dx, _, rfl, by rw [upd_ne hnr]; exact upd_same, R.c, R.nn, by show 2 < 1000; decide, ?_⟩
  refine ⟨by decide, fun cl hc => ?_⟩
  have hc1 := upd_none hc
  have hc2 := upd_none hc1
  have hc0 : H cl = none := upd_none hc2
  have hcr : r ≠ cl := fun e => by rw [← e, hR] at hc0; cases hc0
  have hnc : nl ≠ cl := fun e => by rw [← e, upd_same] at hc1; cases hc1
  refine ⟨_, rfl, r, C, dx, _, rfl, by rw [upd_ne hcr]; exact upd_same, R.c, R.nc, by show 3 < 1000; decide, ?_⟩
  refine ⟨_, rfl, r, C, dx, _, rfl, upd_same, R.c, R.nu, by show 4 < 1000; decide, ?_⟩
  refine q _ nl cl (fun a u h hne => ?_) hn0 hc0 ?_ ?_ hnc upd_same
  · have h1 : a ≠ nl := fun e => by rw [e, hn0] at h; cases h
    have h2 : a ≠ cl := fun e => by rw [e, hc0] at h; cases h
    rw [upd_ne hne, upd_ne hne, upd_ne h2, upd_ne hne, upd_ne h1, upd_ne hne]
    exact h
  · rw [upd_ne hnr.symm, upd_ne hnr.symm, upd_ne hnc, upd_ne hnr.symm, upd_same]
  · rw [upd_ne hcr.symm, upd_ne hcr.symm, upd_same]
end
end Mw

namespace Mw
open PySem L2
/-- all stands but what is at r and c -/
def Kp (r c : Addr) (H H' : Hp) : Prop := ∀ a u, H a = some u → a ≠ r → a ≠ c → H' a = some u
theorem Kp.refl {r c : Addr} (H : Hp) : Kp r c H H := fun _ _ h _ _ => h
theorem Kp.r {r c : Addr} {H H' : Hp} (k : Kp r c H H') (o : HO) : Kp r c H (upd H' r o) := fun a u h h1 h2 => by rw [upd_ne h1]; exact k a u h h1 h2
theorem Kp.c {r c : Addr} {H H' : Hp} (k : Kp r c H H') (o : HO) : Kp r c H (upd H' c o) := fun a u h h1 h2 => by rw [upd_ne h2]; exact k a u h h1 h2
theorem Kp.s {r c : Addr} {H H' H2 : Hp} (k : Kp r c H H') (s : Same H' H2) : Kp r c H H2 := fun a u h h1 h2 => s _ _ (k a u h h1 h2)
theorem Kp.n {r c p : Addr} {H H' : Hp} (k : Kp r c H H') (hp : H' p = none) (o : HO) : Kp r c H (upd H' p o) := k.s (same_new hp o)
theorem Kp.f {r c p : Addr} {H H' : Hp} (k : Kp r c H H') (hp : H p = none) (o : HO) : Kp r c H (upd H' p o) := fun a u h h1 h2 => by rw [upd_ne (fun z => by rw [z, hp] at h; cases h)]; exact k a u h h1 h2
/-- what is new is new from the start -/
theorem Kp.free {r c p : Addr} {H H' : Hp} {u v : HO} (k : Kp r c H H') (hr : H' r = some u) (hc : H' c = some v) (hp : H' p = none) : H p = none := by
  cases e : H p with
  | none => rfl
  | some x =>
    have h1 : p ≠ r := fun z => by rw [z, hr] at hp; cases hp
    have h2 : p ≠ c := fun z => by rw [z, hc] at hp; cases hp
    rw [k p x e h1 h2] at hp
    cases hp
section
variable {P : Program} {w : World} {K : PySem.W.Frag} {mg : Str → Option Value} {base : Heap} {C C2 : Addr}
/-- an offset stands, or none, from p to q -/
def OffAt (tx : Str) (p : Nat) (n : Int) (q : Nat) : Prop := ∃ k, SpN (tl tx) p k ∧
  ((Txt.startswith3 tx "offset:" ((p + k : Nat) : Int) = false ∧ n = 0 ∧ q = p + k) ∨
   (Txt.startswith3 tx "offset:" ((p + k : Nat) : Int) = true ∧ RowN figuresS (tl tx) (p + k + 7) 1 ∧ intText? (mkS (((tl tx).drop (p + k + 7)).take 1)) = some n ∧ q = p + k + 7 + 1))
abbrev sBh : Stmt := mth (top 26) 11
theorem scBh : FnScope ["self", "name", "kind", "head"] ["self", "name"] (defScope sBh) := ⟨rfl, rfl, rfl, by decide +kernel, rfl, by decide +kernel, by decide +kernel⟩
def hdV (b : Bool) (nm : Str) (n : Int) : List V := .str (kindS b) :: .str nm :: (if b then [.int n] else [])
def spBh (C C2 : Addr) : Sp := fun vs H Q _ => ∃ (r dx nl cl : Addr) (tx nm : Str) (p : Nat) (pl : Int) (c0 : List V) (b : Bool) (n : Int) (y : L2.Key) (a1 a2 a3 p4 k0 q k1 : Nat),
  vs = [.ref r, .str nm] ∧ H r = some (.ins C dx (rdF tx p nl cl pl)) ∧ tx.length < 10000000 ∧ H cl = some (.lst c0) ∧ c0.length < sizeLine ∧
  SpN (tl tx) p a1 ∧ (tl tx)[p + a1]? = some 44 ∧ SpN (tl tx) (p + a1 + 1) a2 ∧ RowN lettersS (tl tx) (p + a1 + 1 + a2) 6 ∧ ((tl tx).drop (p + a1 + 1 + a2)).take 6 = tl (kindS b) ∧
  SpN (tl tx) (p + a1 + 1 + a2 + 6) a3 ∧ (tl tx)[p + a1 + 1 + a2 + 6 + a3]? = some 44 ∧
  (if b then OffAt tx (p + a1 + 1 + a2 + 6 + a3 + 1) n p4 else p4 = p + a1 + 1 + a2 + 6 + a3 + 1) ∧
  SpN (tl tx) p4 k0 ∧ KeyAt (tl tx) (p4 + k0) b (kV y) q ∧ SpN (tl tx) q k1 ∧ (tl tx)[q + k1]? = some 123 ∧
  ∀ (H' : Hp) (o dx2 hd cs t : Addr), Kp r cl H H' → H o = none → H hd = none → H cs = none → H t = none →
    H' r = some (.ins C dx (rdF tx ((q + k1 + 1 : Nat) : Int) t cl (if b then pl + 1 else pl))) → H' cl = some (.lst (c0 ++ [.ref o])) → H' o = some (.ins C2 dx2 (ocF hd nl cs (kV y))) → H' hd = some (.tup (hdV b nm n)) → H' cs = some (.dK []) → H' t = some (.lst []) → Q .non H'
theorem ok_bh {f fS fK fO fI fB : Addr} {fd fdS fdK fdO fdI fdB : FuncData} (F : Fun K "begin_choice" "Reader.begin_choice" sBh f fd) (R : RC K C) (R2 : OC K C2)
    (GS : FnOk P w K mg base CX0 2 fS fdS ["self", "sign"] (spTs C)) (bS : Binds K fdS ["self", "sign"] []) (mS : Meth K C "take_sign" fS)
    (GK : FnOk P w K mg base CX0 3 fK fdK ["self"] (spTk C)) (bK : Binds K fdK ["self"] []) (mK : Meth K C "take_kind" fK)
    (GO : FnOk P w K mg base CX0 4 fO fdO ["self"] (spTo C)) (bO : Binds K fdO ["self"] []) (mO : Meth K C "take_offset" fO)
    (M : Mk K C2 fI) (mC : mg "OpenChoice" = some (.ref C2)) (GI : FnOk P w K mg base CX0 1 fI fdI ["self", "head", "around"] (spOi C2)) (bI : Binds K fdI ["self", "head", "around"] [])
    (GB : FnOk P w K mg base CX0 5 fB fdB ["self"] (spBc C C2)) (bB : Binds K fdB ["self"] []) (mB : Meth K C "begin_case" fB) : FnOk P w K mg base CX0 6 f fd ["self", "name"] (spBh C C2) := by
  refine F.ok scBh (fun vs H Q E h => ?_) (fun cdv A outer s H vs Q E hr h => ?_)
  · obtain ⟨r, dx, nl, cl, tx, nm, p, pl, c0, b, n, y, a1, a2, a3, p4, k0, q, k1, rfl, _⟩ := h
    rfl
  obtain ⟨r, dx, nl, cl, tx, nm, p, pl, c0, b, n, y, a1, a2, a3, p4, k0, e, k1, rfl, hR, hl, hcl, hz, h1, h2, h3, h4, h5, h6, h7, h8, h9, h10, h11, h12, q⟩ := h
  have nd := scBh.nd
  refine ⟨_, pss_cons (ps_expr (pe_meth (pv 0) R.c mS GS (hr.mono (by decide)) bS .nil pass0 (pa_cons pe_str pa_nil)))
    (pss_cons (ps_set (i := 2) nd rfl (.inl rfl) (pe_meth0 (pv 0) R.c mK GK (hr.mono (by decide)) bK .nil pass0))
    (pss_cons (ps_expr (pe_meth (pv 0) R.c mS GS (hr.mono (by decide)) bS .nil pass0 (pa_cons pe_str pa_nil)))
    (pss_cons (ps_set (i := 3) nd rfl (.inl rfl) (pe_tup (pa_cons (pv 2) (pa_cons (pv 1) pa_nil))))
    (pss_cons (ps_if (pt_cmpR op_eq (pv 2) pe_str (nomark _))
      (pss_cons (ps_set (i := 3) nd rfl (.inl rfl) (pe_tup (pa_cons (pv 2) (pa_cons (pv 1) (pa_cons (pe_meth0 (pv 0) R.c mO GO (hr.mono (by decide)) bO .nil pass0) pa_nil)))))
      (pss_one (ps_fldaug (pv 0) pe_int in_add))) pss_nil)
    (pss_cons (ps_expr (pe_bm PySem.F.plainAttrs_list PySem.F.slot_list_append PySem.F.type_list_append mt_append (pe_fld (pv 0) rfl) (pa_cons (pe_make M GI (hr.mono (by decide)) rfl mC bI .nil pass0 (pa_cons (pv 3) (pa_cons (pe_fld (pv 0) rfl) pa_nil))) pa_nil)))
    (pss_one (ps_expr (pe_meth0 (pv 0) R.c mB GB hr bB .nil pass0)))))))), ?_⟩
  have hrc : r ≠ cl := fun z => by rw [z, hcl] at hR; cases hR
  have fin : ∀ (H3 : Hp) (hdA : Addr) (pl' : Int), pl' = (if b then pl + 1 else pl) → Kp r cl H H3 → H3 r = some (.ins C dx (rdF tx (p4 : Int) nl cl pl')) → H3 cl = some (.lst c0) → H3 hdA = some (.tup (hdV b nm n)) → H hdA = none →
      tSeq (tDrop (tBM K "list" rAppend (tFld K (tVar 0) "choices") (tCons (tMake C2 (spOi C2) [] E0 (tCons (tVar 3) (tCons (tFld K (tVar 0) "nodes") tNil))) tNil))) (tDrop (tMeth C "begin_case" (spBc C C2) [] E0 (tVar 0) tNil))
        { nx := fun _ H' => Q V.non H', rt := Q } [some (.ref r), some (.str nm), some (.str (kindS b)), some (.ref hdA)] H3 := by
    intro H3 hdA pl' hpl k3 hR3 hcl3 hh3 hh0
    refine ⟨_, rfl, r, C, dx, _, .ref cl, rfl, hR3, R.c, R.nc, rfl, .inl ⟨rfl, _, SqL.of hcl3⟩, _, rfl, _, rfl, r, C, dx, _, .ref nl, rfl, hR3, R.c, R.nn, rfl, fun o dx2 ho hdx hne => ?_⟩
    refine ⟨o, dx2, hdA, nl, rfl, upd_same, fun cs hcs => ⟨rfl, ?_⟩⟩
    have ho0 : H o = none := k3.free hR3 hcl3 ho
    have hdx0 : H dx2 = none := k3.free hR3 hcl3 hdx
    have hA1 := upd_none hcs
    have hcs3 : H3 cs = none := upd_none hA1
    have hcs0 : H cs = none := k3.free hR3 hcl3 hcs3
    have hco : cs ≠ o := fun z => by rw [z, upd_same] at hcs; cases hcs
    let H4 : Hp := upd (upd (upd (upd H3 dx2 (.own o)) o (.ins C2 dx2 [])) cs (.dK [])) o (.ins C2 dx2 (ocF hdA nl cs .non))
    have S34 : Same H3 H4 := fun a u h => by
      show upd (upd (upd (upd H3 dx2 (.own o)) o (.ins C2 dx2 [])) cs (.dK [])) o (.ins C2 dx2 (ocF hdA nl cs .non)) a = some u
      have z1 : a ≠ o := fun z => by rw [z, ho] at h; cases h
      have z2 : a ≠ cs := fun z => by rw [z, hcs3] at h; cases h
      have z3 : a ≠ dx2 := fun z => by rw [z, hdx] at h; cases h
      rw [upd_ne z1, upd_ne z2, upd_ne z1, upd_ne z3]
      exact h
    have k4 : Kp r cl H H4 := ((((k3.f hdx0 (.own o)).f ho0 (.ins C2 dx2 [])).f hcs0 (.dK [])).f ho0 (.ins C2 dx2 (ocF hdA nl cs .non)))
    have ocl : o ≠ cl := fun z => by rw [z, hcl3] at ho; cases ho
    have ccl : cs ≠ cl := fun z => by rw [z, hcl3] at hcs3; cases hcs3
    have hcl' : hdA ≠ cl := fun z => by rw [z, hcl3] at hh3; cases hh3
    have orr : o ≠ r := fun z => by rw [z, hR3] at ho; cases ho
    have crr : cs ≠ r := fun z => by rw [z, hR3] at hcs3; cases hcs3
    have hrr : hdA ≠ r := fun z => by rw [z, hR3] at hh3; cases hh3
    have hoo : hdA ≠ o := fun z => by rw [z, ho] at hh3; cases hh3
    refine ⟨cl, c0, _, rfl, rfl, S34 _ _ hcl3, hz, ?_⟩
    let H5 : Hp := upd H4 cl (.lst (c0 ++ [.ref o]))
    have hR5 : H5 r = some (.ins C dx (rdF tx (p4 : Int) nl cl pl')) := (upd_ne hrc).trans (S34 _ _ hR3)
    have hcl5 : H5 cl = some (.lst (c0 ++ [.ref o])) := upd_same
    have ho5 : H5 o = some (.ins C2 dx2 (ocF hdA nl cs .non)) := (upd_ne ocl).trans upd_same
    have hh5 : H5 hdA = some (.tup (hdV b nm n)) := (upd_ne hcl').trans (S34 _ _ hh3)
    have hc5 : H5 cs = some (.dK []) := (upd_ne ccl).trans ((upd_ne hco).trans upd_same)
    refine ⟨_, rfl, r, dx, _, rfl, hR5, rfl, ⟨r, dx, nl, cl, o, dx2, hdA, nl, cs, tx, p4, pl', c0, _, .non, [], b, y, k0, e, k1, rfl, hR5, hl, hcl5, ho5, hh5, hc5, orr, h9, h10, rfl, h11, h12, fun t ht => ?_⟩⟩
    replace ht : H5 t = none := ht
    have k5 : Kp r cl H H5 := k4.c _
    have ht0 : H t = none := k5.free hR5 hcl5 ht
    have tr : t ≠ r := fun z => by rw [z, hR5] at ht; cases ht
    have tcl : t ≠ cl := fun z => by rw [z, hcl5] at ht; cases ht
    have to' : t ≠ o := fun z => by rw [z, ho5] at ht; cases ht
    have th : t ≠ hdA := fun z => by rw [z, hh5] at ht; cases ht
    have tc : t ≠ cs := fun z => by rw [z, hc5] at ht; cases ht
    refine q _ o dx2 hdA cs t (((k5.f ho0 _).f ht0 _).r _) ho0 hh0 hcs0 ht0 ?_ ?_ ?_ ?_ ?_ ?_
    · rw [upd_same, hpl]
    · rw [upd_ne hrc.symm, upd_ne tcl.symm, upd_ne ocl.symm]; exact hcl5
    · rw [upd_ne orr, upd_ne to'.symm]; exact upd_same
    · rw [upd_ne hrr, upd_ne th.symm, upd_ne hoo]; exact hh5
    · rw [upd_ne crr, upd_ne tc.symm, upd_ne hco]; exact hc5
    · rw [upd_ne tr]; exact upd_same
  refine ⟨_, rfl, r, dx, _, rfl, hR, rfl, ⟨r, dx, nl, cl, tx, p, pl, a1, 44, rfl, hR, hl, h1, h2, ?_⟩⟩
  refine ⟨_, rfl, r, dx, _, rfl, upd_same, rfl, ⟨r, dx, nl, cl, tx, p + a1 + 1, pl, a2, b, rfl, upd_same, hl, h3, h4, h5, ?_⟩⟩
  rw [upd_upd']
  intro H1 s1
  have hR1 := s1 _ _ (upd_same (H := H) (a := r))
  have k1' : Kp r cl H H1 := ((Kp.refl H).r _).s s1
  have hcl1 : H1 cl = some (.lst c0) := s1 _ _ (by rw [upd_ne hrc.symm]; exact hcl)
  refine ⟨_, rfl, r, dx, _, rfl, hR1, rfl, ⟨r, dx, nl, cl, tx, p + a1 + 1 + a2 + 6, pl, a3, 44, rfl, hR1, hl, h6, h7, ?_⟩⟩
  refine ⟨_, rfl, _, rfl, by show 2 ≤ sizeLine; decide, fun t1 ht1 => ?_⟩
  let p3 : Nat := p + a1 + 1 + a2 + 6 + a3 + 1
  let Ha : Hp := upd H1 r (.ins C dx (rdF tx (p3 : Int) nl cl pl))
  have ka : Kp r cl H Ha := k1'.r _
  have hRa : Ha r = some (.ins C dx (rdF tx (p3 : Int) nl cl pl)) := upd_same
  have hca : Ha cl = some (.lst c0) := (upd_ne hrc.symm).trans hcl1
  have ht10 : H t1 = none := ka.free hRa hca ht1
  let Hb : Hp := upd Ha t1 (.tup [.str (kindS b), .str nm])
  have sb : Same Ha Hb := same_new ht1 _
  have kb : Kp r cl H Hb := ka.s sb
  refine ⟨_, rfl, rfl, _, rfl, ?_⟩
  cases b with
  | false =>
    rw [show decide (V.str (kindS false) = V.str "plural") = false from rfl]
    have e4 : p4 = p3 := h8
    exact fin Hb t1 pl rfl kb (by rw [e4]; exact sb _ _ hRa) (sb _ _ hca) upd_same ht10
  | true =>
    rw [show decide (V.str (kindS true) = V.str "plural") = true from rfl]
    obtain ⟨k, hs, hof⟩ := (show OffAt tx p3 n p4 from h8)
    let Hc : Hp := upd Hb r (.ins C dx (rdF tx (p4 : Int) nl cl pl))
    have hRc : Hc r = some (.ins C dx (rdF tx (p4 : Int) nl cl pl)) := upd_same
    have hcc : Hc cl = some (.lst c0) := (upd_ne hrc.symm).trans (sb _ _ hca)
    have kc : Kp r cl H Hc := kb.r _
    have go : ∀ Q' : VK, (∀ t2, Hc t2 = none → Q' (.ref t2) (upd Hc t2 (.tup [.str (kindS true), .str nm, .int n]))) → tTup (tCons (tVar 2) (tCons (tVar 1) (tCons (tMeth C "take_offset" (spTo C) [] E0 (tVar 0) tNil) tNil)))
        [some (.ref r), some (.str nm), some (.str (kindS true)), some (.ref t1)] Hb Q' := fun Q' q' => by
      refine ⟨_, rfl, _, rfl, _, rfl, r, dx, _, rfl, sb _ _ hRa, rfl, ⟨r, dx, nl, cl, tx, p3, pl, k, rfl, sb _ _ hRa, hl, hs, ?_⟩⟩
      rcases hof with ⟨f1, f2, f3⟩ | ⟨f1, f2, f3, f4⟩
      · refine .inl ⟨f1, by show 3 ≤ sizeLine; decide, ?_⟩
        rw [← f3, ← f2]
        exact q'
      · refine .inr ⟨f1, f2, n, f3, by show 3 ≤ sizeLine; decide, ?_⟩
        rw [← f4]
        exact q'
    rw [if_pos rfl]
    unfold tSeq tAsg
    refine go _ fun t2 ht2 => ?_
    have sd : Same Hc (upd Hc t2 (.tup [.str (kindS true), .str nm, .int n])) := same_new ht2 _
    have ht20 : H t2 = none := kc.free hRc hcc ht2
    have t2r : t2 ≠ r := fun z => by rw [z, hRc] at ht2; cases ht2
    refine ⟨_, rfl, r, C, dx, _, .int pl, rfl, sd _ _ hRc, R.c, R.nu, rfl, _, _, rfl, rfl, dx, _, sd _ _ hRc, by show 5 < 1000; omega, ?_⟩
    rw [put_plurals]
    exact fin _ t2 (pl + 1) rfl ((kc.s sd).r _) upd_same ((upd_ne hrc.symm).trans (sd _ _ hcc)) ((upd_ne t2r).trans upd_same) ht20
end
end Mw

namespace Mw
open PySem L2
section
variable {P : Program} {w : World} {K : PySem.W.Frag} {mg : Str → Option Value} {base : Heap} {C C2 : Addr}
theorem sp0 {l : List Nat} {p c : Nat} (h : l[p]? = some c) (hc : ¬(c = 32 ∨ c = 10)) : SpN l p 0 := ⟨fun i hi => absurd hi (Nat.not_lt_zero i), fun d hd => by rw [Nat.add_zero, h] at hd; cases hd; exact hc⟩
abbrev sRa : Stmt := mth (top 26) 12
theorem scRa : FnScope ["self", "name"] ["self"] (defScope sRa) := ⟨rfl, rfl, rfl, by decide +kernel, rfl, by decide +kernel, by decide +kernel⟩
def spRa (C C2 : Addr) : Sp := fun vs H Q _ => ∃ (r dx nl cl : Addr) (tx : Str) (p : Nat) (pl : Int) (a k a' : Nat) (ns : List V), vs = [.ref r] ∧ H r = some (.ins C dx (rdF tx p nl cl pl)) ∧ tx.length < 10000000 ∧ H nl = some (.lst ns) ∧ ns.length < sizeLine ∧
  (tl tx)[p]? = some 123 ∧ SpN (tl tx) (p + 1) a ∧ 0 < k ∧ k ≤ 8 ∧ RowN lettersS (tl tx) (p + 1 + a) k ∧ SpN (tl tx) (p + 1 + a + k) a' ∧
  (((tl tx)[p + 1 + a + k + a']? = some 125 ∧ ∀ t, H t = none → Q .non (upd (upd (upd H r (.ins C dx (rdF tx ((p + 1 + a + k + a' + 1 : Nat) : Int) nl cl pl))) t (.tup [.str "show", .str (mkS (((tl tx).drop (p + 1 + a)).take k))])) nl (.lst (ns ++ [.ref t])))) ∨
   ((∃ c, (tl tx)[p + 1 + a + k + a']? = some c ∧ c ≠ 125) ∧ spBh C C2 [.ref r, .str (mkS (((tl tx).drop (p + 1 + a)).take k))] (upd H r (.ins C dx (rdF tx ((p + 1 + a + k + a' : Nat) : Int) nl cl pl))) Q E0))
theorem ok_ra {f fS fK fN fG fB : Addr} {fd fdS fdK fdN fdG fdB : FuncData} (F : Fun K "read_argument" "Reader.read_argument" sRa f fd) (R : RC K C)
    (GS : FnOk P w K mg base CX0 2 fS fdS ["self", "sign"] (spTs C)) (bS : Binds K fdS ["self", "sign"] []) (mS : Meth K C "take_sign" fS)
    (GK : FnOk P w K mg base CX0 1 fK fdK ["self"] (spSk C)) (bK : Binds K fdK ["self"] []) (mK : Meth K C "skip_spaces" fK)
    (GN : FnOk P w K mg base CX0 3 fN fdN ["self"] (spNa C)) (bN : Binds K fdN ["self"] []) (mN : Meth K C "take_name" fN)
    (GG : FnOk P w K mg base CX0 1 fG fdG ["self"] (spSg C)) (bG : Binds K fdG ["self"] []) (mG : Meth K C "sign_ahead" fG)
    (GB : FnOk P w K mg base CX0 6 fB fdB ["self", "name"] (spBh C C2)) (bB : Binds K fdB ["self", "name"] []) (mB : Meth K C "begin_choice" fB) : FnOk P w K mg base CX0 7 f fd ["self"] (spRa C C2) := by
  refine F.ok scRa (fun vs H Q E h => ?_) (fun cdv A outer s H vs Q E hr h => ?_)
  · obtain ⟨r, dx, nl, cl, tx, p, pl, a, k, a', ns, rfl, _⟩ := h
    rfl
  obtain ⟨r, dx, nl, cl, tx, p, pl, a, k, a', ns, rfl, hR, hl, hn, hnl, h1, h2, h3, h4, h5, h6, h⟩ := h
  have nd := scRa.nd
  refine ⟨_, pss_cons (ps_expr (pe_meth (pv 0) R.c mS GS (hr.mono (by decide)) bS .nil pass0 (pa_cons pe_str pa_nil)))
    (pss_cons (ps_expr (pe_meth0 (pv 0) R.c mK GK (hr.mono (by decide)) bK .nil pass0))
    (pss_cons (ps_set (i := 1) nd rfl (.inl rfl) (pe_meth0 (pv 0) R.c mN GN (hr.mono (by decide)) bN .nil pass0))
    (pss_cons (ps_expr (pe_meth0 (pv 0) R.c mK GK (hr.mono (by decide)) bK .nil pass0))
    (pss_one (ps_if (pt_cmpR op_eq (pe_meth0 (pv 0) R.c mG GG (hr.mono (by decide)) bG .nil pass0) pe_str (nomark _))
      (pss_cons (ps_fldaug (pv 0) pe_int in_add) (pss_one (ps_expr (pe_bm PySem.F.plainAttrs_list PySem.F.slot_list_append PySem.F.type_list_append mt_append (pe_fld (pv 0) rfl) (pa_cons (pe_tup (pa_cons pe_str (pa_cons (pv 1) pa_nil))) pa_nil)))))
      (pss_one (ps_expr (pe_meth (pv 0) R.c mB GB hr bB .nil pass0 (pa_cons (pv 1) pa_nil))))))))), ?_⟩
  have hnr : nl ≠ r := fun z => by rw [z, hR] at hn; cases hn
  refine ⟨_, rfl, r, dx, _, rfl, hR, rfl, ⟨r, dx, nl, cl, tx, p, pl, 0, 123, rfl, hR, hl, sp0 h1 (by decide), h1, ?_⟩⟩
  rw [Nat.add_zero]
  refine ⟨_, rfl, r, dx, _, rfl, upd_same, rfl, ⟨r, dx, nl, cl, tx, p + 1, pl, a, rfl, upd_same, hl, h2, ?_⟩⟩
  rw [upd_upd']
  refine ⟨_, rfl, r, dx, _, rfl, upd_same, rfl, ⟨r, dx, nl, cl, tx, p + 1 + a, pl, k, rfl, upd_same, hl, h3, h4, h5, ?_⟩⟩
  rw [upd_upd']
  refine ⟨_, rfl, r, dx, _, rfl, upd_same, rfl, ⟨r, dx, nl, cl, tx, p + 1 + a + k, pl, a', rfl, upd_same, hl, h6, ?_⟩⟩
  rw [upd_upd']
  have hR2 : upd H r (.ins C dx (rdF tx ((p + 1 + a + k + a' : Nat) : Int) nl cl pl)) r = some (.ins C dx (rdF tx ((p + 1 + a + k + a' : Nat) : Int) nl cl pl)) := upd_same
  rcases h with ⟨hc, q⟩ | ⟨⟨c, hc, hne⟩, q⟩
  · refine ⟨_, rfl, r, dx, _, rfl, hR2, rfl, ⟨r, dx, nl, cl, tx, p + 1 + a + k + a', pl, 125, rfl, hR2, hl, hc, ?_⟩⟩
    refine ⟨rfl, _, rfl, ?_⟩
    rw [show decide (V.str ⟨#[125]⟩ = V.str "}") = true from rfl]
    refine ⟨_, rfl, r, C, dx, _, .int ((p + 1 + a + k + a' : Nat) : Int), rfl, hR2, R.c, R.np, rfl, _, _, rfl, rfl, dx, _, hR2, by show 5 < 1000; omega, ?_⟩
    rw [put_place, upd_upd']
    have hR3 : upd H r (.ins C dx (rdF tx ((p + 1 + a + k + a' + 1 : Nat) : Int) nl cl pl)) r = some (.ins C dx (rdF tx ((p + 1 + a + k + a' + 1 : Nat) : Int) nl cl pl)) := upd_same
    have hn3 : upd H r (.ins C dx (rdF tx ((p + 1 + a + k + a' + 1 : Nat) : Int) nl cl pl)) nl = some (.lst ns) := (upd_ne hnr).trans hn
    refine ⟨_, rfl, r, C, dx, _, .ref nl, rfl, hR3, R.c, R.nn, rfl, .inl ⟨rfl, _, SqL.of hn3⟩, _, rfl, by show 2 ≤ sizeLine; decide, fun t ht => ⟨nl, ns, _, rfl, rfl, ?_, hnl, ?_⟩⟩
    · rw [upd_ne (fun z => by rw [← z] at ht; exact absurd (hn3.symm.trans ht) (fun x => by cases x))]
      exact hn3
    · exact q t (upd_none ht)
  · refine ⟨_, rfl, r, dx, _, rfl, hR2, rfl, ⟨r, dx, nl, cl, tx, p + 1 + a + k + a', pl, c, rfl, hR2, hl, hc, ?_⟩⟩
    refine ⟨rfl, _, rfl, ?_⟩
    rw [show decide (V.str ⟨#[c]⟩ = V.str "}") = false from ?_]
    · exact ⟨_, rfl, r, dx, _, rfl, hR2, rfl, _, rfl, q⟩
    · refine decide_eq_false fun z => hne ?_
      injection z with z
      injection z with z
      injection z with z
      injection z
end
end Mw

namespace Mw
open PySem L2
section
variable {P : Program} {w : World} {K : PySem.W.Frag} {mg : Str → Option Value} {base : Heap} {C C2 : Addr}
theorem one_eq (a b : Nat) : decide (V.str ⟨#[a]⟩ = V.str ⟨#[b]⟩) = decide (a = b) := by
  by_cases h : a = b
  · rw [h, decide_eq_true rfl, decide_eq_true rfl]
  · rw [decide_eq_false h]
    refine decide_eq_false fun z => h ?_
    injection z with z
    injection z with z
    injection z with z
    injection z
abbrev sRn : Stmt := mth (top 26) 16
theorem scRn : FnScope ["self", "sign"] ["self"] (defScope sRn) := ⟨rfl, rfl, rfl, by decide +kernel, rfl, by decide +kernel, by decide +kernel⟩
/-- by the sign ahead: what the four readers promise -/
def spRn (C C2 : Addr) (sE : Sp) : Sp := fun vs H Q _ => ∃ (r dx nl cl : Addr) (tx : Str) (p : Nat) (pl : Int) (c : Nat) (c0 : List V), vs = [.ref r] ∧ H r = some (.ins C dx (rdF tx p nl cl pl)) ∧ tx.length < 10000000 ∧ H cl = some (.lst c0) ∧ (tl tx)[p]? = some c ∧
  ((c = 123 ∧ spRa C C2 [.ref r] H (fun _ H' => Q .non H') E0) ∨ (c = 125 ∧ c0 ≠ [] ∧ sE [.ref r] H (fun _ H' => Q .non H') E0) ∨ (c = 39 ∧ spRe C [.ref r] H (fun _ H' => Q .non H') E0) ∨ (c ≠ 123 ∧ c ≠ 125 ∧ c ≠ 39 ∧ spRs C [.ref r] H (fun _ H' => Q .non H') E0))
theorem ok_rn {f fG fA fE fX fS : Addr} {fd fdG fdA fdE fdX fdS : FuncData} {sE : Sp} (F : Fun K "read_next" "Reader.read_next" sRn f fd) (R : RC K C)
    (GG : FnOk P w K mg base CX0 1 fG fdG ["self"] (spSg C)) (bG : Binds K fdG ["self"] []) (mG : Meth K C "sign_ahead" fG)
    (GA : FnOk P w K mg base CX0 7 fA fdA ["self"] (spRa C C2)) (bA : Binds K fdA ["self"] []) (mA : Meth K C "read_argument" fA)
    (GE : FnOk P w K mg base CX0 7 fE fdE ["self"] sE) (bE : Binds K fdE ["self"] []) (mE : Meth K C "end_message" fE)
    (GX : FnOk P w K mg base CX0 1 fX fdX ["self"] (spRe C)) (bX : Binds K fdX ["self"] []) (mX : Meth K C "read_escape" fX)
    (GS : FnOk P w K mg base CX0 2 fS fdS ["self"] (spRs C)) (bS : Binds K fdS ["self"] []) (mS : Meth K C "read_sign" fS) : FnOk P w K mg base CX0 8 f fd ["self"] (spRn C C2 sE) := by
  refine F.ok scRn (fun vs H Q E h => ?_) (fun cdv A outer s H vs Q E hr h => ?_)
  · obtain ⟨r, dx, nl, cl, tx, p, pl, c, c0, rfl, _⟩ := h
    rfl
  obtain ⟨r, dx, nl, cl, tx, p, pl, c, c0, rfl, hR, hl, hcl, hc, h⟩ := h
  have nd := scRn.nd
  refine ⟨_, pss_cons (ps_set (i := 1) nd rfl (.inl rfl) (pe_meth0 (pv 0) R.c mG GG (hr.mono (by decide)) bG .nil pass0))
    (pss_one (ps_if (pt_cmpR op_eq (pv 1) pe_str (nomark _)) (pss_one (ps_expr (pe_meth0 (pv 0) R.c mA GA hr bA .nil pass0)))
      (pss_one (ps_if (PW.pt (pw_and (pt_cmpR op_eq (pv 1) pe_str (nomark _)) (pw_and1 (pt_truth (pe_fld (pv 0) rfl) (by intro _; rfl))))) (pss_one (ps_expr (pe_meth0 (pv 0) R.c mE GE hr bE .nil pass0)))
        (pss_one (ps_if (pt_cmpR op_eq (pv 1) pe_str (nomark _)) (pss_one (ps_expr (pe_meth0 (pv 0) R.c mX GX (hr.mono (by decide)) bX .nil pass0)))
          (pss_one (ps_expr (pe_meth0 (pv 0) R.c mS GS (hr.mono (by decide)) bS .nil pass0))))))))), ?_⟩
  refine ⟨_, rfl, r, dx, _, rfl, hR, rfl, ⟨r, dx, nl, cl, tx, p, pl, c, rfl, hR, hl, hc, ?_⟩⟩
  refine ⟨_, rfl, rfl, _, rfl, ?_⟩
  show (if decide (V.str ⟨#[c]⟩ = V.str ⟨#[123]⟩) = true then _ else _)
  rw [one_eq]
  rcases h with ⟨rfl, q⟩ | ⟨rfl, hne, q⟩ | ⟨rfl, q⟩ | ⟨n1, n2, n3, q⟩
  · exact ⟨_, rfl, r, dx, _, rfl, hR, rfl, q⟩
  · rw [decide_eq_false (by decide)]
    refine ⟨_, rfl, rfl, _, rfl, ?_⟩
    rw [show decide (V.str ⟨#[125]⟩ = V.str "}") = true from rfl]
    refine ⟨_, rfl, r, C, dx, _, .ref cl, rfl, hR, R.c, R.nc, rfl, !c0.isEmpty, .inl ⟨c0, SqL.of hcl, rfl⟩, ?_⟩
    cases c0 with
    | nil => exact absurd rfl hne
    | cons _ _ => exact ⟨_, rfl, r, dx, _, rfl, hR, rfl, q⟩
  · rw [decide_eq_false (by decide)]
    refine ⟨_, rfl, rfl, _, rfl, ?_⟩
    rw [show decide (V.str ⟨#[39]⟩ = V.str "}") = false from rfl]
    refine ⟨_, rfl, rfl, _, rfl, ?_⟩
    rw [show decide (V.str ⟨#[39]⟩ = V.str "'") = true from rfl]
    exact ⟨_, rfl, r, dx, _, rfl, hR, rfl, q⟩
  · rw [decide_eq_false n1]
    refine ⟨_, rfl, rfl, _, rfl, ?_⟩
    rw [show decide (V.str ⟨#[c]⟩ = V.str "}") = false from (one_eq c 125).trans (decide_eq_false n2)]
    refine ⟨_, rfl, rfl, _, rfl, ?_⟩
    rw [show decide (V.str ⟨#[c]⟩ = V.str "'") = false from (one_eq c 39).trans (decide_eq_false n3)]
    exact ⟨_, rfl, r, dx, _, rfl, hR, rfl, q⟩
end
end Mw

namespace Mw
open PySem L2
theorem last_ix (c0 : List V) (v : V) : atI (c0 ++ [v]) (-1) = some v := by
  simp only [atI, ixN, List.length_append, List.length_cons, List.length_nil]
  rw [if_neg (by omega), if_pos (by omega)]
  show (c0 ++ [v])[_]? = _
  rw [show ((-1 : Int) + ((c0.length + (0 + 1) : Nat) : Int)).toNat = c0.length from by omega]
  simp
theorem last_pop (c0 : List V) (v : V) : (c0 ++ [v])[(c0 ++ [v]).length - 1]? = some v := by
  rw [List.length_append, List.length_singleton, Nat.add_sub_cancel]
  simp
section
variable {P : Program} {w : World} {K : PySem.W.Frag} {mg : Str → Option Value} {base : Heap} {C C2 : Addr}
abbrev sEm : Stmt := mth (top 26) 13
theorem scEm : FnScope ["self", "choice", "message"] ["self"] (defScope sEm) := ⟨rfl, rfl, rfl, by decide +kernel, rfl, by decide +kernel, by decide +kernel⟩
/-- the end of a message: the next case, or the end of the choice -/
def spEm (C C2 : Addr) : Sp := fun vs H Q _ => ∃ (r dx nl cl o dx2 hd ar cs : Addr) (tx : Str) (p : Nat) (pl : Int) (c0 hs : List V) (key : V) (kvs : List (L2.Key × V)) (b : Bool) (H0 : Hp) (t : T),
  vs = [.ref r] ∧ H r = some (.ins C dx (rdF tx p nl cl pl)) ∧ tx.length < 10000000 ∧ (tl tx)[p]? = some 125 ∧ H cl = some (.lst (c0 ++ [.ref o])) ∧ H o = some (.ins C2 dx2 (ocF hd ar cs key)) ∧ H hd = some (.tup (.str (kindS b) :: hs)) ∧ hs.length ≤ 2 ∧ H cs = some (.dK kvs) ∧ kvs.length < 1000 ∧ o ≠ r ∧
  Same H0 H ∧ H0 r = none ∧ At H0 nl t ∧ Wf t false ∧ t.sz < 100000 ∧
  ∀ (ml : Addr) (H1 : Hp) (ws : List V), H ml = none → Same (upd H r (.ins C dx (rdF tx ((p + 1 : Nat) : Int) nl cl pl))) H1 → H1 ml = some (.lst ws) → Nodes (mix H0 H1) (jt [] t) ws →
    ((∃ (y y' : L2.Key) (k0 q k1 : Nat), key = kV y ∧ kV y ≠ .str "other" ∧ SpN (tl tx) (p + 1) k0 ∧ KeyAt (tl tx) (p + 1 + k0) b (kV y') q ∧ valV (putK kvs y (.ref ml)) y' = none ∧ SpN (tl tx) q k1 ∧ (tl tx)[q + k1]? = some 123 ∧
        ∀ t2, H1 t2 = none → Q .non (upd (upd (upd (upd H1 cs (.dK (putK kvs y (.ref ml)))) o (.ins C2 dx2 (ocF hd ar cs (kV y')))) t2 (.lst [])) r (.ins C dx (rdF tx ((q + k1 + 1 : Nat) : Int) t2 cl pl)))) ∨
     (key = .str "other" ∧ ∃ (a2 : Nat) (ns : List V), SpN (tl tx) (p + 1) a2 ∧ (tl tx)[p + 1 + a2]? = some 125 ∧ H ar = some (.lst ns) ∧ ns.length < sizeLine ∧ ar ≠ cl ∧
        ∀ (H6 : Hp) (u l : Addr) (ts : List Addr), Same (upd (upd H1 cl (.lst c0)) r (.ins C dx (rdF tx ((p + 1 + a2 + 1 : Nat) : Int) ar cl (if b then pl - 1 else pl)))) H6 → H1 u = none → H1 l = none → (∀ z ∈ ts, H1 z = none) → l ∉ ts → H6 u = some (.tup (.str (kindS b) :: hs ++ [.ref l, .ref ml])) → H6 l = some (.lst (ts.map V.ref)) →
          Paired (fun (z : Addr) (q : L2.Key × V) => H6 z = some (.tup [kV q.1, q.2])) ts kvs → Q .non (upd H6 ar (.lst (ns ++ [.ref u])))))
theorem ok_em {f fS fJ fB fO : Addr} {fd fdS fdJ fdB fdO : FuncData} (F : Fun K "end_message" "Reader.end_message" sEm f fd) (R : RC K C) (R2 : OC K C2)
    (GS : FnOk P w K mg base CX0 2 fS fdS ["self", "sign"] (spTs C)) (bS : Binds K fdS ["self", "sign"] []) (mS : Meth K C "take_sign" fS)
    (GJ : FnOk P w K mg base CX0 2 fJ fdJ ["message"] spJt) (bJ : Binds K fdJ ["message"] []) (kJ : PySem.W.keepIn K (.ref fJ) = true) (mJ : mg "joined_texts" = some (.ref fJ))
    (GB : FnOk P w K mg base CX0 5 fB fdB ["self"] (spBc C C2)) (bB : Binds K fdB ["self"] []) (mB : Meth K C "begin_case" fB)
    (GO : FnOk P w K mg base CX0 1 fO fdO ["self", "other"] (spOd C2)) (bO : Binds K fdO ["self", "other"] []) (mO : Meth K C2 "closed" fO) : FnOk P w K mg base CX0 7 f fd ["self"] (spEm C C2) := by
  refine F.ok scEm (fun vs H Q E h => ?_) (fun cdv A outer s H vs Q E hr h => ?_)
  · obtain ⟨r, dx, nl, cl, o, dx2, hd, ar, cs, tx, p, pl, c0, hs, key, kvs, b, H0, t, rfl, _⟩ := h
    rfl
  obtain ⟨r, dx, nl, cl, o, dx2, hd, ar, cs, tx, p, pl, c0, hs, key, kvs, b, H0, t, rfl, hR, hl, h125, hcl, ho, hh, hhs, hcs, hkl, hor, s0, hr0, hat, hw, hz, q⟩ := h
  have nd := scEm.nd
  have hu := Nat.lt_of_le_of_lt (Nat.add_le_add_left (show 1 ≤ 64 from by decide) _) hr.units
  refine ⟨_, pss_cons (ps_expr (pe_meth (pv 0) R.c mS GS (hr.mono (by decide)) bS .nil pass0 (pa_cons pe_str pa_nil)))
    (pss_cons (ps_set (i := 1) nd rfl (.inl rfl) (pe_ix ix_list (pe_fld (pv 0) rfl) (pe_un un_neg pe_int) (fun _ _ => rfl)))
    (pss_cons (ps_set (i := 2) nd rfl (.inl rfl) (pe_call GJ (hr.mono (by decide)) rfl mJ kJ bJ .nil pass0 (pa_cons (pe_fld (pv 0) rfl) pa_nil)))
    (pss_cons (ps_if (pt_cmpR op_ne (pe_fld (pv 1) rfl) pe_str (nomark _))
      (pss_cons (ps_dput hu (pe_fld (pv 1) rfl) (pe_fld (pv 1) rfl) (pv 2) rfl)
      (pss_cons (ps_expr (pe_meth0 (pv 0) R.c mB GB (hr.mono (by decide)) bB .nil pass0))
      (pss_one ps_retN))) pss_nil)
    (pss_cons (ps_expr (pe_meth (pv 0) R.c mS GS (hr.mono (by decide)) bS .nil pass0 (pa_cons pe_str pa_nil)))
    (pss_cons (ps_expr (pe_bm0 PySem.F.plainAttrs_list PySem.F.slot_list_pop PySem.F.type_list_pop mt_pop (pe_fld (pv 0) rfl)))
    (pss_cons (ps_if (pt_cmpR op_eq (pe_ix ix_tup (pe_fld (pv 1) rfl) pe_int (fun _ _ => rfl)) pe_str (nomark _)) (pss_one (ps_fldaug (pv 0) pe_int in_sub)) pss_nil)
    (pss_cons (ps_fld (pv 0) (pe_fld (pv 1) rfl) rfl)
    (pss_one (ps_expr (pe_bm PySem.F.plainAttrs_list PySem.F.slot_list_append PySem.F.type_list_append mt_append (pe_fld (pv 0) rfl) (pa_cons (pe_meth (pv 1) R2.c mO GO (hr.mono (by decide)) bO .nil pass0 (pa_cons (pv 2) pa_nil)) pa_nil))))))))))), ?_⟩
  have ne : ∀ {a : Addr} {u : HO}, H a = some u → (∀ C dx fs, u ≠ .ins C dx fs) → a ≠ r := fun h z e => by
    rw [e, hR] at h
    cases h
    exact z _ _ _ rfl
  have hclr : cl ≠ r := ne hcl fun _ _ _ z => by cases z
  have hhr : hd ≠ r := ne hh fun _ _ _ z => by cases z
  have hcr : cs ≠ r := ne hcs fun _ _ _ z => by cases z
  refine ⟨_, rfl, r, dx, _, rfl, hR, rfl, ⟨r, dx, nl, cl, tx, p, pl, 0, 125, rfl, hR, hl, sp0 h125 (by decide), h125, ?_⟩⟩
  rw [Nat.add_zero]
  generalize hHa : upd H r (.ins C dx (rdF tx ((p + 1 : Nat) : Int) nl cl pl)) = Ha at q ⊢
  have hRa : Ha r = some (.ins C dx (rdF tx ((p + 1 : Nat) : Int) nl cl pl)) := by rw [← hHa]; exact upd_same
  have keep : ∀ {a : Addr} {u : HO}, H a = some u → a ≠ r → Ha a = some u := fun h z => by rw [← hHa, upd_ne z]; exact h
  have hcla := keep hcl hclr
  refine ⟨_, rfl, r, C, dx, _, .ref cl, rfl, hRa, R.c, R.nc, rfl, 1, rfl, cl, _, -1, .ref o, rfl, rfl, SqL.of hcla, last_ix _ _, ?_⟩
  have s0a : Same H0 Ha := fun a u h => keep (s0 _ _ h) (by rintro rfl; rw [hr0] at h; cases h)
  refine ⟨_, rfl, r, C, dx, _, .ref nl, rfl, hRa, R.c, R.nn, rfl, nl, H0, t, rfl, s0a, hat, hw, hz, fun ml H1 ws hml s1 hw1 hn => ?_⟩
  have hml0 : H ml = none := by rw [← hHa] at hml; exact upd_none hml
  have ho1 := s1 _ _ (keep ho hor)
  have hh1 := s1 _ _ (keep hh hhr)
  have hcs1 := s1 _ _ (keep hcs hcr)
  have hcl1 := s1 _ _ hcla
  have hR1 := s1 _ _ hRa
  have hoc : o ≠ cs := fun e => by rw [e, hcs1] at ho1; cases ho1
  refine ⟨_, rfl, o, C2, dx2, _, key, rfl, ho1, R2.c, R2.nk, rfl, ?_⟩
  rcases q ml H1 ws hml0 s1 hw1 hn with ⟨y, y', k0, e, k1, rfl, hne, hk0, hka, hv, hk1, h123, q⟩ | ⟨rfl, a2, ns, hk2, h2, har, hnl, harc, q⟩
  · refine ⟨by cases y <;> rfl, _, rfl, ?_⟩
    rw [show (!decide (kV y = V.str "other")) = true by rw [decide_eq_false hne]; rfl]
    refine ⟨_, rfl, _, rfl, o, C2, dx2, _, .ref cs, rfl, ho1, R2.c, R2.nc, rfl, _, rfl, o, C2, dx2, _, kV y, rfl, ho1, R2.c, R2.nk, rfl, cs, _, rfl, DPut.k hcs1 (sz_line (by omega)), ?_⟩
    let H2 : Hp := upd H1 cs (.dK (putK kvs y (.ref ml)))
    have hR2 : H2 r = some (.ins C dx (rdF tx ((p + 1 : Nat) : Int) nl cl pl)) := (upd_ne hcr.symm).trans hR1
    have hcl2 : H2 cl = some (.lst (c0 ++ [.ref o])) := (upd_ne (fun e => by rw [e, hcs1] at hcl1; cases hcl1)).trans hcl1
    have ho2 : H2 o = some (.ins C2 dx2 (ocF hd ar cs (kV y))) := (upd_ne hoc).trans ho1
    have hh2 : H2 hd = some (.tup (.str (kindS b) :: hs)) := (upd_ne (fun e => by rw [e, hcs1] at hh1; cases hh1)).trans hh1
    have hcs2 : H2 cs = some (.dK (putK kvs y (.ref ml))) := upd_same
    refine ⟨_, rfl, r, dx, _, rfl, hR2, rfl, ⟨r, dx, nl, cl, o, dx2, hd, ar, cs, tx, p + 1, pl, c0, hs, kV y, _, b, y', k0, e, k1, rfl, hR2, hl, hcl2, ho2, hh2, hcs2, hor, hk0, hka, hv, hk1, h123, fun t2 ht2 => ?_⟩⟩
    exact q t2 (upd_none ht2)
  · refine ⟨rfl, _, rfl, ?_⟩
    rw [show (!decide (V.str "other" = V.str "other")) = false by simp]
    refine ⟨_, rfl, r, dx, _, rfl, hR1, rfl, ⟨r, dx, nl, cl, tx, p + 1, pl, a2, 125, rfl, hR1, hl, hk2, h2, ?_⟩⟩
    let H2 : Hp := upd H1 r (.ins C dx (rdF tx ((p + 1 + a2 + 1 : Nat) : Int) nl cl pl))
    have hR2 : H2 r = some (.ins C dx (rdF tx ((p + 1 + a2 + 1 : Nat) : Int) nl cl pl)) := upd_same
    have hcl2 : H2 cl = some (.lst (c0 ++ [.ref o])) := (upd_ne hclr).trans hcl1
    refine ⟨_, rfl, r, C, dx, _, .ref cl, rfl, hR2, R.c, R.nc, rfl, .inl ⟨rfl, _, SqL.of hcl2⟩, cl, _, .ref o, rfl, rfl, hcl2, last_pop _ _, ?_⟩
    rw [List.dropLast_concat]
    let H3 : Hp := upd H2 cl (.lst c0)
    have hR3 : H3 r = some (.ins C dx (rdF tx ((p + 1 + a2 + 1 : Nat) : Int) nl cl pl)) := (upd_ne hclr.symm).trans hR2
    have nocl : ∀ {a : Addr} {u : HO}, H1 a = some u → (∀ xs, u ≠ .lst xs) → a ≠ cl := fun h z e => by
      rw [e, hcl1] at h
      cases h
      exact z _ rfl
    have k3 : ∀ {a : Addr} {u : HO}, H1 a = some u → a ≠ r → a ≠ cl → H3 a = some u := fun h z1 z2 => (upd_ne z2).trans ((upd_ne z1).trans h)
    have ho3 := k3 ho1 hor (nocl ho1 fun _ z => by cases z)
    have hh3 := k3 hh1 hhr (nocl hh1 fun _ z => by cases z)
    have hcs3 := k3 hcs1 hcr (nocl hcs1 fun _ z => by cases z)
    have harr : ar ≠ r := ne har fun _ _ _ z => by cases z
    have har3 := k3 (s1 _ _ (keep har harr)) harr harc
    refine ⟨_, rfl, o, C2, dx2, _, .ref hd, rfl, ho3, R2.c, R2.nh, rfl, hd, _, 0, .str (kindS b), rfl, rfl, SqT.of hh3, atI_nat (j := 0) rfl, rfl, _, rfl, ?_⟩
    -- what follows, with the number of plurals
    have fin : ∀ (H4 : Hp), H4 = upd H3 r (.ins C dx (rdF tx ((p + 1 + a2 + 1 : Nat) : Int) nl cl (if b then pl - 1 else pl))) →
        tSeq (sFld K (tVar 0) (tFld K (tVar 1) "around") "nodes") (tDrop (tBM K "list" rAppend (tFld K (tVar 0) "nodes") (tCons (tMeth C2 "closed" (spOd C2) [] E0 (tVar 1) (tCons (tVar 2) tNil)) tNil)))
          { nx := fun _ H' => Q V.non H', rt := Q } [some (.ref r), some (.ref o), some (.ref ml)] H4 := by
      rintro H4 rfl
      generalize (if b then pl - 1 else pl) = pl' at q ⊢
      have hR4 : upd H3 r (.ins C dx (rdF tx ((p + 1 + a2 + 1 : Nat) : Int) nl cl pl')) r = some (.ins C dx (rdF tx ((p + 1 + a2 + 1 : Nat) : Int) nl cl pl')) := upd_same
      refine ⟨_, rfl, o, C2, dx2, _, .ref ar, rfl, (upd_ne hor).trans ho3, R2.c, R2.na, rfl, _, rfl, r, C, dx, _, rfl, hR4, R.c, R.nn, by show 5 < 1000; omega, ?_⟩
      rw [put_nodes, upd_upd']
      have ex : upd H3 r (.ins C dx (rdF tx ((p + 1 + a2 + 1 : Nat) : Int) ar cl pl')) = upd (upd H1 cl (.lst c0)) r (.ins C dx (rdF tx ((p + 1 + a2 + 1 : Nat) : Int) ar cl pl')) := by
        funext z
        by_cases e1 : z = r
        · rw [e1, upd_same, upd_same]
        · rw [upd_ne e1, upd_ne e1]
          show upd H2 cl _ z = _
          by_cases e2 : z = cl
          · rw [e2, upd_same, upd_same]
          · rw [upd_ne e2, upd_ne e2]
            exact upd_ne e1
      have hRx : upd H3 r (.ins C dx (rdF tx ((p + 1 + a2 + 1 : Nat) : Int) ar cl pl')) r = some (.ins C dx (rdF tx ((p + 1 + a2 + 1 : Nat) : Int) ar cl pl')) := upd_same
      have hox : upd H3 r (.ins C dx (rdF tx ((p + 1 + a2 + 1 : Nat) : Int) ar cl pl')) o = some (.ins C2 dx2 (ocF hd ar cs (.str "other"))) := (upd_ne hor).trans ho3
      have hhx : upd H3 r (.ins C dx (rdF tx ((p + 1 + a2 + 1 : Nat) : Int) ar cl pl')) hd = some (.tup (.str (kindS b) :: hs)) := (upd_ne hhr).trans hh3
      have hcx : upd H3 r (.ins C dx (rdF tx ((p + 1 + a2 + 1 : Nat) : Int) ar cl pl')) cs = some (.dK kvs) := (upd_ne hcr).trans hcs3
      have hax : upd H3 r (.ins C dx (rdF tx ((p + 1 + a2 + 1 : Nat) : Int) ar cl pl')) ar = some (.lst ns) := (upd_ne harr).trans har3
      rw [ex] at hRx hox hhx hcx hax ⊢
      refine ⟨_, rfl, r, C, dx, _, .ref ar, rfl, hRx, R.c, R.nn, rfl, .inl ⟨rfl, _, SqL.of hax⟩, _, rfl, o, dx2, _, rfl, hox, rfl, _, rfl, ?_⟩
      refine ⟨o, dx2, hd, ar, cs, ml, _, .str (kindS b) :: hs, kvs, rfl, hox, hhx, List.cons_ne_nil _ _, by rw [List.length_cons]; omega, hcx, fun H6 u l ts s6 hu6 hl6 hts hnt h6u h6l hp6 => ?_⟩
      refine ⟨ar, ns, _, rfl, rfl, s6 _ _ hax, hnl, ?_⟩
      exact q H6 u l ts s6 (upd_none (upd_none hu6)) (upd_none (upd_none hl6)) (fun z hz => upd_none (upd_none (hts z hz))) hnt h6u h6l hp6
    cases b with
    | false =>
      rw [show decide (V.str (kindS false) = V.str "plural") = false from rfl]
      refine fin _ ?_
      show H3 = upd H3 r _
      funext z
      by_cases e : z = r
      · rw [e, upd_same, hR3]
        rfl
      · rw [upd_ne e]
    | true =>
      rw [show decide (V.str (kindS true) = V.str "plural") = true from rfl]
      refine ⟨_, rfl, r, C, dx, _, .int pl, rfl, hR3, R.c, R.nu, rfl, _, _, rfl, rfl, dx, _, hR3, by show 5 < 1000; omega, ?_⟩
      rw [put_plurals]
      exact fin _ rfl
end
end Mw

namespace Mw
open PySem L2
theorem bh_mono {C C2 : Addr} {vs : List V} {H : Hp} {Q Q' : VK} {E : XK} (m : ∀ v H', Q v H' → Q' v H') (h : spBh C C2 vs H Q E) : spBh C C2 vs H Q' E := by
  obtain ⟨r, dx, nl, cl, tx, nm, p, pl, c0, b, n, y, a1, a2, a3, p4, k0, q, k1, h1, h2, h3, h4, h5, h6, h7, h8, h9, h10, h11, h12, h13, h14, h15, h16, h17, k⟩ := h
  exact ⟨r, dx, nl, cl, tx, nm, p, pl, c0, b, n, y, a1, a2, a3, p4, k0, q, k1, h1, h2, h3, h4, h5, h6, h7, h8, h9, h10, h11, h12, h13, h14, h15, h16, h17, fun H' o dx2 hd cs t z1 z2 z3 z4 z5 z6 z7 z8 z9 z10 z11 => m _ _ (k H' o dx2 hd cs t z1 z2 z3 z4 z5 z6 z7 z8 z9 z10 z11)⟩
theorem ra_mono {C C2 : Addr} {vs : List V} {H : Hp} {Q Q' : VK} {E : XK} (m : ∀ v H', Q v H' → Q' v H') (h : spRa C C2 vs H Q E) : spRa C C2 vs H Q' E := by
  obtain ⟨r, dx, nl, cl, tx, p, pl, a, k, a', ns, h1, h2, h3, h4, h5, h6, h7, h8, h9, h10, h11, h12⟩ := h
  refine ⟨r, dx, nl, cl, tx, p, pl, a, k, a', ns, h1, h2, h3, h4, h5, h6, h7, h8, h9, h10, h11, ?_⟩
  rcases h12 with ⟨z1, z2⟩ | ⟨z1, z2⟩
  · exact .inl ⟨z1, fun t ht => m _ _ (z2 t ht)⟩
  · exact .inr ⟨z1, bh_mono m z2⟩
theorem re_mono {C : Addr} {vs : List V} {H : Hp} {Q Q' : VK} {E : XK} (m : ∀ v H', Q v H' → Q' v H') (h : spRe C vs H Q E) : spRe C vs H Q' E := by
  obtain ⟨r, dx, nl, cl, tx, p, pl, c, j, ns, h1, h2, h3, h4, h5, h6, h7, h8, k⟩ := h
  exact ⟨r, dx, nl, cl, tx, p, pl, c, j, ns, h1, h2, h3, h4, h5, h6, h7, h8, fun t ht => m _ _ (k t ht)⟩
theorem rs_mono {C : Addr} {vs : List V} {H : Hp} {Q Q' : VK} {E : XK} (m : ∀ v H', Q v H' → Q' v H') (h : spRs C vs H Q E) : spRs C vs H Q' E := by
  obtain ⟨r, dx, nl, cl, tx, p, pl, c, ns, xs, h1, h2, h3, h4, h5, h6, h7, k⟩ := h
  exact ⟨r, dx, nl, cl, tx, p, pl, c, ns, xs, h1, h2, h3, h4, h5, h6, h7, fun t ht => m _ _ (k t ht)⟩
theorem em_mono {C C2 : Addr} {vs : List V} {H : Hp} {Q Q' : VK} {E : XK} (m : ∀ v H', Q v H' → Q' v H') (h : spEm C C2 vs H Q E) : spEm C C2 vs H Q' E := by
  obtain ⟨r, dx, nl, cl, o, dx2, hd, ar, cs, tx, p, pl, c0, hs, key, kvs, b, H0, t, h1, h2, h3, h4, h5, h6, h7, h8, h9, h10, h11, h12, h13, h14, h15, h16, k⟩ := h
  refine ⟨r, dx, nl, cl, o, dx2, hd, ar, cs, tx, p, pl, c0, hs, key, kvs, b, H0, t, h1, h2, h3, h4, h5, h6, h7, h8, h9, h10, h11, h12, h13, h14, h15, h16, fun ml H1 ws z1 z2 z3 z4 => ?_⟩
  rcases k ml H1 ws z1 z2 z3 z4 with ⟨y, y', k0, q, k1, y1, y2, y3, y4, y5, y6, y7, y8⟩ | ⟨y1, a2, ns, y2, y3, y4, y5, y6, y7⟩
  · exact .inl ⟨y, y', k0, q, k1, y1, y2, y3, y4, y5, y6, y7, fun t2 ht => m _ _ (y8 t2 ht)⟩
  · exact .inr ⟨y1, a2, ns, y2, y3, y4, y5, y6, fun H6 u l ts q1 q2 q3 q4 q5 q6 q7 q8 => m _ _ (y7 H6 u l ts q1 q2 q3 q4 q5 q6 q7 q8)⟩
theorem rn_mono {C C2 : Addr} {vs : List V} {H : Hp} {Q Q' : VK} {E : XK} (m : ∀ v H', Q v H' → Q' v H') (h : spRn C C2 (spEm C C2) vs H Q E) : spRn C C2 (spEm C C2) vs H Q' E := by
  obtain ⟨r, dx, nl, cl, tx, p, pl, c, c0, h1, h2, h3, h4, h5, h6⟩ := h
  refine ⟨r, dx, nl, cl, tx, p, pl, c, c0, h1, h2, h3, h4, h5, ?_⟩
  have m' : ∀ (v : V) H', (fun _ H' => Q V.non H' : VK) v H' → (fun _ H' => Q' V.non H' : VK) v H' := fun _ H' z => m _ H' z
  rcases h6 with ⟨z1, z2⟩ | ⟨z1, z2, z3⟩ | ⟨z1, z2⟩ | ⟨z1, z2, z3, z4⟩
  · exact .inl ⟨z1, ra_mono m' z2⟩
  · exact .inr (.inl ⟨z1, z2, em_mono m' z3⟩)
  · exact .inr (.inr (.inl ⟨z1, re_mono m' z2⟩))
  · exact .inr (.inr (.inr ⟨z1, z2, z3, rs_mono m' z4⟩))
/-- where the reading ends well -/
def FinAt (C : Addr) (r dx : Addr) (tx : Str) (Q : VK) (H : Hp) : Prop := ∃ (nl cl : Addr) (pl : Int) (H0 : Hp) (t : T), H r = some (.ins C dx (rdF tx (tx.length : Int) nl cl pl)) ∧ H cl = some (.lst []) ∧ Same H0 H ∧ At H0 nl t ∧ Wf t false ∧ t.sz < 100000 ∧
  ∀ l H' ws, H l = none → Same H H' → H' l = some (.lst ws) → Nodes (mix H0 H') (jt [] t) ws → Q (.ref l) H'
/-- from here the reading goes on to a good end in fewer than so many steps -/
def Ok (C C2 r dx : Addr) (tx : Str) (Q : VK) : Nat → Hp → Prop
  | 0, _ => False
  | m + 1, H => FinAt C r dx tx Q H ∨ ∃ (p : Nat) (nl cl : Addr) (pl : Int), H r = some (.ins C dx (rdF tx p nl cl pl)) ∧ p < tx.length ∧ spRn C C2 (spEm C C2) [.ref r] H (fun _ H' => Ok C C2 r dx tx Q m H') E0
section
variable {P : Program} {w : World} {K : PySem.W.Frag} {mg : Str → Option Value} {base : Heap} {C C2 : Addr}
abbrev sPm : Stmt := top 27
theorem scPm : FnScope ["text", "reader"] ["text"] (defScope sPm) := ⟨rfl, rfl, rfl, by decide +kernel, rfl, by decide +kernel, by decide +kernel⟩
def spPm (C C2 : Addr) : Sp := fun vs H Q _ => ∃ (tx : Str), vs = [.str tx] ∧ tx.length < 10000000 ∧
  ∀ (r dx nl cl : Addr) (H1 : Hp), Same H H1 → H r = none → H nl = none → H cl = none → H1 r = some (.ins C dx (rdF tx 0 nl cl 0)) → H1 nl = some (.lst []) → H1 cl = some (.lst []) → nl ≠ cl → ∃ m, Ok C C2 r dx tx Q m H1
theorem ok_pm {f fI fN fJ : Addr} {fd fdI fdN fdJ : FuncData} (F : Fun K "parse_message" "parse_message" sPm f fd) (R : RC K C)
    (M : Mk K C fI) (mC : mg "Reader" = some (.ref C)) (GI : FnOk P w K mg base CX0 1 fI fdI ["self", "text"] (spRi C)) (bI : Binds K fdI ["self", "text"] [])
    (GN : FnOk P w K mg base CX0 8 fN fdN ["self"] (spRn C C2 (spEm C C2))) (bN : Binds K fdN ["self"] []) (mN : Meth K C "read_next" fN)
    (GJ : FnOk P w K mg base CX0 2 fJ fdJ ["message"] spJt) (bJ : Binds K fdJ ["message"] []) (kJ : PySem.W.keepIn K (.ref fJ) = true) (mJ : mg "joined_texts" = some (.ref fJ))
    (ml : mg "len" = none) : FnOk P w K mg base CX0 9 f fd ["text"] (spPm C C2) := by
  refine F.ok scPm (fun vs H Q E h => ?_) (fun cdv A outer s H vs Q E hr h => ?_)
  · obtain ⟨tx, rfl, _⟩ := h
    rfl
  obtain ⟨tx, rfl, hl, q⟩ := h
  have nd := scPm.nd
  refine ⟨_, pss_cons (ps_set (i := 1) nd rfl (.inl rfl) (pe_make M GI (hr.mono (by decide)) rfl mC bI .nil pass0 (pa_cons (pv 0) pa_nil)))
    (pss_cons (ps_while PassesOwn.never (pt_cmpR op_lt (pe_fld (pv 1) rfl) (pe_callB call_len_str (by rfl) ml PySem.boot_len (pa_cons (pv 0) pa_nil)) (nomark _))
      (pss_one (ps_expr (pe_meth0 (pv 1) R.c mN GN hr bN .nil pass0))))
    (pss_cons (ps_if (pt_truth (pe_fld (pv 1) rfl) (by intro _; rfl)) (pss_one ps_dead) pss_nil)
    (pss_one (ps_ret (pe_call GJ (hr.mono (by decide)) rfl mJ kJ bJ .nil pass0 (pa_cons (pe_fld (pv 1) rfl) pa_nil)))))), ?_⟩
  refine ⟨_, rfl, fun r dx hr0 hdx ne => ⟨r, dx, tx, rfl, upd_same, fun H1 nl cl k1 hn hc hn1 hc1 hnc hR1 => ⟨rfl, ?_⟩⟩⟩
  have S1 : Same H H1 := fun a u h => k1 a u (by rw [upd_ne (ne_of_none h hr0), upd_ne (ne_of_none h hdx)]; exact h) (ne_of_none h hr0)
  have hn0 : H nl = none := upd_none (upd_none hn)
  have hc0 : H cl = none := upd_none (upd_none hc)
  obtain ⟨m, hm⟩ := q r dx nl cl H1 S1 hr0 hn0 hc0 hR1 hn1 hc1 hnc
  refine ⟨fun m σ H' => σ = [some (.str tx), some (.ref r)] ∧ Ok C C2 r dx tx Q m H', ⟨m, rfl, hm⟩, ?_⟩
  rintro m σ H' ⟨rfl, hm⟩
  cases m with
  | zero => exact hm.elim
  | succ m =>
    rcases hm with ⟨nl, cl, pl, H0, t, hR, hcl, s0, hat, hw, hz, q⟩ | ⟨p, nl, cl, pl, hR, hp, hn⟩
    · refine ⟨_, rfl, r, C, dx, _, .int (tx.length : Int), rfl, hR, R.c, R.np, rfl, _, rfl, tx, rfl, le_line hl, _, _, rfl, rfl, _, rfl, ?_⟩
      rw [show decide ((tx.length : Int) < (tx.length : Int)) = false from decide_eq_false (by omega)]
      refine ⟨_, rfl, r, C, dx, _, .ref cl, rfl, hR, R.c, R.nc, rfl, false, .inl ⟨[], SqL.of hcl, rfl⟩, ?_⟩
      exact ⟨_, rfl, r, C, dx, _, .ref nl, rfl, hR, R.c, R.nn, rfl, nl, H0, t, rfl, s0, hat, hw, hz, q⟩
    · refine ⟨_, rfl, r, C, dx, _, .int (p : Int), rfl, hR, R.c, R.np, rfl, _, rfl, tx, rfl, le_line hl, _, _, rfl, rfl, _, rfl, ?_⟩
      rw [show decide ((p : Int) < (tx.length : Int)) = true from decide_eq_true (by omega)]
      refine ⟨fun σ H2 => σ = [some (.str tx), some (.ref r)] ∧ Ok C C2 r dx tx Q m H2, fun σ' H2 h => ⟨m, by omega, h⟩, ?_⟩
      refine ⟨_, rfl, r, dx, _, rfl, hR, rfl, ?_⟩
      show spRn C C2 (spEm C C2) [.ref r] H' (fun _ H1 => [some (V.str tx), some (V.ref r)] = [some (V.str tx), some (V.ref r)] ∧ Ok C C2 r dx tx Q m H1) E0
      exact rn_mono (Q := fun _ H1 => Ok C C2 r dx tx Q m H1) (fun _ H' z => ⟨rfl, z⟩) hn
end
end Mw

namespace Mw
open PySem L2
/-! ### what stands from a place on -/
theorem dr_add {L a s : List Nat} {p : Nat} (h : L.drop p = a ++ s) : L.drop (p + a.length) = s := by
  rw [← List.drop_drop, h, List.drop_left]
theorem dr_get {L s : List Nat} {p c : Nat} (h : L.drop p = c :: s) : L[p]? = some c := by
  have := congrArg (·[0]?) h
  simpa using this
theorem dr_at {L s : List Nat} {p : Nat} (h : L.drop p = s) (i : Nat) : L[p + i]? = s[i]? := by
  rw [← h, List.getElem?_drop]
theorem dr_lt {L s : List Nat} {p c : Nat} (h : L.drop p = c :: s) : p < L.length := (List.getElem?_eq_some_iff.mp (dr_get h)).1
/-- the first sign, if there is one -/
def hdn (P : Nat → Prop) (s : List Nat) : Prop := ∀ c, s[0]? = some c → P c
theorem sp_of {L g s : List Nat} {p : Nat} (h : L.drop p = g ++ s) (hg : Gp g) (hs : hdn (fun c => ¬(c = 32 ∨ c = 10)) s) : SpN L p g.length := by
  refine ⟨fun i hi => ?_, fun c hc => ?_⟩
  · rw [dr_at h, List.getElem?_append_left hi, List.getElem?_eq_getElem hi]
    exact ⟨_, rfl, hg _ (List.getElem_mem hi)⟩
  · rw [dr_at h, List.getElem?_append_right (Nat.le_refl _), Nat.sub_self] at hc
    exact hs c hc
theorem row_of {z : Str} {L a s : List Nat} {p : Nat} (h : L.drop p = a ++ s) (ha : ∀ c ∈ a, c ∈ tl z) (hs : hdn (fun c => c ∉ tl z) s) : RowN z L p a.length := by
  refine ⟨fun i hi => ?_, fun c hc => ?_⟩
  · rw [dr_at h, List.getElem?_append_left hi, List.getElem?_eq_getElem hi]
    exact ⟨_, rfl, ha _ (List.getElem_mem hi)⟩
  · rw [dr_at h, List.getElem?_append_right (Nat.le_refl _), Nat.sub_self] at hc
    exact hs c hc
theorem take_of {L a s : List Nat} {p : Nat} (h : L.drop p = a ++ s) : (L.drop p).take a.length = a := by
  rw [h, List.take_left]
theorem sw_eq (x y : Str) (p : Nat) (hy : tl y ≠ []) : Txt.startswith3 x y (p : Int) = decide (((tl x).drop p).take (tl y).length = tl y) := by
  have hf : PySem.fromIndex x.length (p : Int) = p := by
    unfold PySem.fromIndex
    rw [if_neg (by omega)]
    omega
  have hx : x.length = (tl x).length := len_tl' x
  have hl : y.length = (tl y).length := len_tl' y
  unfold Txt.startswith3
  rw [hf]
  unfold Builtin.Str.subAt
  have he : (x.cps.extract p (p + y.length)).toList = ((tl x).drop p).take (tl y).length := by
    rw [Array.toList_extract, List.extract_eq_take_drop, Nat.add_sub_cancel_left, hl]
  have hpos := List.length_pos_iff.mpr hy
  rw [Bool.eq_iff_iff, Bool.and_eq_true, decide_eq_true_iff, decide_eq_true_iff, beq_iff_eq]
  refine ⟨fun h => ?_, fun h => ⟨?_, ?_⟩⟩
  · rw [← he, h.2]
  · have := congrArg List.length h
    rw [List.length_take, List.length_drop] at this
    omega
  · refine Array.toList_inj.mp ?_
    rw [he, h]
theorem sw_true {x y : Str} {p : Nat} {s : List Nat} (hy : tl y ≠ []) (h : (tl x).drop p = tl y ++ s) : Txt.startswith3 x y (p : Int) = true := by
  rw [sw_eq x y p hy, h, List.take_left]
  exact decide_eq_true rfl
theorem sw_false {x y : Str} {p i : Nat} {s : List Nat} (hy : tl y ≠ []) (h : (tl x).drop p = s) (hi : i < (tl y).length) (hd : s[i]? ≠ (tl y)[i]?) : Txt.startswith3 x y (p : Int) = false := by
  rw [sw_eq x y p hy, h]
  refine decide_eq_false fun e => hd ?_
  rw [← e, List.getElem?_take_of_lt hi]
/-! ### messages in a heap whose lists change: all tuples, and the lists that do not change -/
def dv (L : List Addr) (H : Hp) : Hp := fun a => if a ∈ L then none else match H a with
  | some (.tup xs) => some (.tup xs)
  | some (.lst xs) => some (.lst xs)
  | _ => none
def AllL (L : List Addr) (H : Hp) : Prop := ∀ b ∈ L, ∃ xs, H b = some (.lst xs)
theorem dv_in {L : List Addr} {H : Hp} {a : Addr} {o : HO} (h : dv L H a = some o) : a ∉ L ∧ H a = some o ∧ ((∃ xs, o = .tup xs) ∨ ∃ xs, o = .lst xs) := by
  unfold dv at h
  split at h
  · cases h
  · rename_i hn
    split at h
    · cases h
      exact ⟨hn, by assumption, .inl ⟨_, rfl⟩⟩
    · cases h
      exact ⟨hn, by assumption, .inr ⟨_, rfl⟩⟩
    · cases h
theorem dv_out {L : List Addr} {H : Hp} : Same (dv L H) H := fun _ _ h => (dv_in h).2.1
theorem dv_lst {L : List Addr} {H : Hp} {a : Addr} {xs : List V} (h : a ∉ L) (e : H a = some (.lst xs)) : dv L H a = some (.lst xs) := by
  unfold dv
  rw [if_neg h, e]
theorem dv_tup' {L : List Addr} {H : Hp} {a : Addr} {xs : List V} (h : a ∉ L) (e : H a = some (.tup xs)) : dv L H a = some (.tup xs) := by
  unfold dv
  rw [if_neg h, e]
theorem dv_tup {L : List Addr} {H : Hp} {a : Addr} {xs : List V} (al : AllL L H) (e : H a = some (.tup xs)) : dv L H a = some (.tup xs) :=
  dv_tup' (fun h => by obtain ⟨ys, h1⟩ := al a h; rw [e] at h1; cases h1) e
theorem dv_mono {L L' : List Addr} {H H' : Hp} (m : ∀ a o, a ∉ L → H a = some o → ((∃ xs, o = .tup xs) ∨ ∃ xs, o = .lst xs) → a ∉ L' ∧ H' a = some o) : Same (dv L H) (dv L' H') := fun a o h => by
  obtain ⟨h1, h2, h3⟩ := dv_in h
  obtain ⟨h4, h5⟩ := m a o h1 h2 h3
  rcases h3 with ⟨xs, rfl⟩ | ⟨xs, rfl⟩
  · exact dv_tup' h4 h5
  · exact dv_lst h4 h5
theorem dv_same {L : List Addr} {H H' : Hp} (s : Same H H') : Same (dv L H) (dv L H') := dv_mono fun a o h1 h2 _ => ⟨h1, s _ _ h2⟩
theorem dv_free {L : List Addr} {H : Hp} {a : Addr} (h : H a = none) : dv L H a = none := by
  unfold dv
  rw [h]
  simp
/-- one more that is new -/
theorem dv_add {L : List Addr} {n : Addr} {H H' : Hp} (hn : H n = none) (s : Same (dv L H) (dv L H')) : Same (dv L H) (dv (n :: L) H') := fun a o h => by
  obtain ⟨h1, h2, h3⟩ := dv_in (s a o h)
  obtain ⟨_, h5, _⟩ := dv_in h
  have ne : a ≠ n := by rintro rfl; rw [hn] at h5; cases h5
  have hm : a ∉ n :: L := by simp [ne, h1]
  rcases h3 with ⟨xs, rfl⟩ | ⟨xs, rfl⟩
  · exact dv_tup' hm h2
  · exact dv_lst hm h2
theorem dv_sub {L : List Addr} {n : Addr} {H : Hp} : Same (dv (n :: L) H) (dv L H) := dv_mono fun a o h1 h2 _ => ⟨fun z => h1 (List.mem_cons_of_mem _ z), h2⟩
/-- all stands but what is at three -/
def Fx (r cl nl : Addr) (H H' : Hp) : Prop := ∀ a u, H a = some u → a ≠ r → a ≠ cl → a ≠ nl → H' a = some u
theorem Fx.refl {r cl nl : Addr} (H : Hp) : Fx r cl nl H H := fun _ _ h _ _ _ => h
theorem Fx.trans {r cl nl : Addr} {H H1 H2 : Hp} (a : Fx r cl nl H H1) (b : Fx r cl nl H1 H2) : Fx r cl nl H H2 := fun c u h h1 h2 h3 => b c u (a c u h h1 h2 h3) h1 h2 h3
theorem Fx.dv {r cl nl C dx : Addr} {fs : List (Str × V)} {L : List Addr} {H H' : Hp} (f : Fx r cl nl H H') (hr : H r = some (.ins C dx fs)) (hc : cl ∈ L) (hn : nl ∈ L) : Same (dv L H) (dv L H') :=
  dv_mono fun a o h1 h2 h3 => ⟨h1, f a o h2 (by rintro rfl; rw [hr] at h2; cases h2; rcases h3 with ⟨_, e⟩ | ⟨_, e⟩ <;> cases e) (fun e => h1 (by rw [e]; exact hc)) (fun e => h1 (by rw [e]; exact hn))⟩
/-! ### texts, sign by sign -/
def sgn : List Nat → T → T
  | [], r => r
  | c :: cs, r => .text ⟨#[c]⟩ (sgn cs r)
/-- a message as it is read, ahead of the joining -/
def T.spl : T → T
  | .nil => .nil
  | .text s r => sgn (tl s) r.spl
  | .shw n r => .shw n r.spl
  | .num r => .num r.spl
  | .cho hd cs o r => .cho hd cs o r.spl
  | .cas k m r => .cas k m r.spl
theorem catS_snoc (ys : List Str) (s : Str) : catS (ys ++ [s]) = catS ys ++ s := by
  refine TL.ext_tl ?_
  rw [TL.tl_append]
  show ((ys ++ [s]).map tl).flatten = (ys.map tl).flatten ++ tl s
  simp
theorem jt_sgn (r : T) : ∀ (cs : List Nat) (ys : List Str), jt ys (sgn cs r) = jt (ys ++ cs.map fun c => ⟨#[c]⟩) r
  | [], ys => by simp [sgn]
  | c :: cs, ys => by
    show jt (ys ++ [⟨#[c]⟩]) (sgn cs r) = _
    rw [jt_sgn r cs]
    simp
theorem catS_sgn (ys : List Str) (cs : List Nat) : tl (catS (ys ++ cs.map fun c => ⟨#[c]⟩)) = tl (catS ys) ++ cs := by
  show ((ys ++ cs.map fun c => (⟨#[c]⟩ : Str)).map tl).flatten = (ys.map tl).flatten ++ cs
  rw [List.map_append, List.flatten_append, List.map_map]
  congr 1
  induction cs with
  | nil => rfl
  | cons c cs ih =>
    show [c] ++ _ = _
    rw [ih]
    rfl
/-- plain: no empty text, no two beside one another -/
def Pl : T → Prop
  | .nil => True
  | .text s r => tl s ≠ [] ∧ r.notText = true ∧ Pl r
  | .shw _ r => Pl r
  | .num r => Pl r
  | .cho _ _ _ r => Pl r
  | .cas _ _ r => Pl r
theorem jt_nt {t : T} (h : t.notText = true) (ys : List Str) (e : jt [] t.spl = t) : jt ys t.spl = txt (catS ys) t := by
  have z : catS ([] : List Str) = ("" : Str) := rfl
  cases t with
  | nil => rfl
  | text s r => cases h
  | shw n r =>
    have e' : txt (catS []) (.shw n (jt [] r.spl)) = .shw n r := e
    rw [z] at e'
    unfold txt at e'
    rw [if_pos rfl] at e'
    injection e' with _ e'
    show txt (catS ys) (.shw n (jt [] r.spl)) = _
    rw [e']
  | num r =>
    have e' : txt (catS []) (.num (jt [] r.spl)) = .num r := e
    rw [z] at e'
    unfold txt at e'
    rw [if_pos rfl] at e'
    injection e' with e'
    show txt (catS ys) (.num (jt [] r.spl)) = _
    rw [e']
  | cho hd cs o r =>
    have e' : txt (catS []) (.cho hd cs o (jt [] r.spl)) = .cho hd cs o r := e
    rw [z] at e'
    unfold txt at e'
    rw [if_pos rfl] at e'
    injection e' with _ _ _ e'
    show txt (catS ys) (.cho hd cs o (jt [] r.spl)) = _
    rw [e']
  | cas k m r =>
    have e' : txt (catS []) (.cas k m (jt [] r.spl)) = .cas k m r := e
    rw [z] at e'
    unfold txt at e'
    rw [if_pos rfl] at e'
    injection e' with _ _ e'
    show txt (catS ys) (.cas k m (jt [] r.spl)) = _
    rw [e']
theorem jt_spl : ∀ t : T, Pl t → jt [] t.spl = t
  | .nil, _ => rfl
  | .text s r, h => by
    show jt [] (sgn (tl s) r.spl) = _
    rw [jt_sgn, jt_nt h.2.1 _ (jt_spl r h.2.2)]
    have e : catS ([] ++ (tl s).map fun c => (⟨#[c]⟩ : Str)) = s := TL.ext_tl (catS_sgn [] (tl s))
    rw [e]
    unfold txt
    rw [if_neg fun z => h.1 (by rw [z]; rfl)]
  | .shw n r, h => by
    show txt (catS []) (.shw n (jt [] r.spl)) = _
    rw [jt_spl r h]
    rfl
  | .num r, h => by
    show txt (catS []) (.num (jt [] r.spl)) = _
    rw [jt_spl r h]
    rfl
  | .cho hd cs o r, h => by
    show txt (catS []) (.cho hd cs o (jt [] r.spl)) = _
    rw [jt_spl r h]
    rfl
  | .cas k m r, h => by
    show txt (catS []) (.cas k m (jt [] r.spl)) = _
    rw [jt_spl r h]
    rfl
end Mw

namespace Mw
open PySem L2
/-- the reader's state -/
structure St (C r dx : Addr) (tx : Str) (nl cl : Addr) (p : Nat) (pl : Int) (vs c0 : List V) (H : Hp) : Prop where
  r : H r = some (.ins C dx (rdF tx p nl cl pl))
  n : H nl = some (.lst vs)
  c : H cl = some (.lst c0)
  z : vs.length ≤ p
theorem St.nr {C r dx : Addr} {tx : Str} {nl cl : Addr} {p : Nat} {pl : Int} {vs c0 : List V} {H : Hp} (s : St C r dx tx nl cl p pl vs c0 H) : nl ≠ r := fun e => by
  have := s.n
  rw [e, s.r] at this
  cases this
theorem St.cr {C r dx : Addr} {tx : Str} {nl cl : Addr} {p : Nat} {pl : Int} {vs c0 : List V} {H : Hp} (s : St C r dx tx nl cl p pl vs c0 H) : cl ≠ r := fun e => by
  have := s.c
  rw [e, s.r] at this
  cases this
section
variable {C C2 r dx : Addr} {tx : Str} {Q : VK} {nl cl : Addr} {Lm : List Addr}
/-- a node that is put behind the others -/
theorem after_put {H H' : Hp} {t : Addr} {xs : List V} {p p' : Nat} {pl : Int} {vs c0 : List V} {t0 u : T} (hnc : nl ≠ cl) (hn : nl ∈ Lm) (hc : cl ∈ Lm) (al : AllL Lm H) (st : St C r dx tx nl cl p pl vs c0 H) (hp : p < p')
    (ht : H t = none) (k : ∀ a o, H a = some o → a ≠ r → a ≠ nl → H' a = some o) (hr : H' r = some (.ins C dx (rdF tx (p' : Nat) nl cl pl))) (hx : H' t = some (.tup xs)) (hl : H' nl = some (.lst (vs ++ [.ref t])))
    (hN : Nodes (dv Lm H) t0 vs) (hu : ∀ Hd : Hp, Hd t = some (.tup xs) → Nodes Hd u [.ref t]) :
    St C r dx tx nl cl p' pl (vs ++ [.ref t]) c0 H' ∧ Fx r cl nl H H' ∧ Nodes (dv Lm H') (t0.app u) (vs ++ [.ref t]) := by
  have fx : Fx r cl nl H H' := fun a o h h1 _ h3 => k a o h h1 h3
  have tm : t ∉ Lm := fun h => by obtain ⟨ys, e⟩ := al t h; rw [ht] at e; cases e
  exact ⟨⟨hr, hl, k _ _ st.c st.cr hnc.symm, by rw [List.length_append, List.length_singleton]; have := st.z; omega⟩, fx, Nodes.app (hu _ (dv_tup' tm hx)) (Nodes.same (fx.dv st.r hc hn) hN)⟩
theorem text_at {t : Addr} {c : Nat} (Hd : Hp) (h : Hd t = some (.tup [.str "text", .str ⟨#[c]⟩])) : Nodes Hd (.text ⟨#[c]⟩ .nil) [.ref t] := ⟨t, [], rfl, h, rfl⟩
/-- what every step hands on -/
def Go1 (C C2 r dx : Addr) (tx : Str) (Q : VK) (nl cl : Addr) (Lm : List Addr) (c0 : List V) (pl : Int) (t0 u : T) (m p' : Nat) (H : Hp) : Prop :=
  ∀ H' vs', St C r dx tx nl cl p' pl vs' c0 H' → Fx r cl nl H H' → Nodes (dv Lm H') (t0.app u) vs' → Ok C C2 r dx tx Q m H'
theorem esc_cases (c : Nat) : (c ∈ escN ∧ ∃ s, escC c = 39 :: c :: s) ∨ (c ≠ 39 ∧ c ≠ 123 ∧ c ≠ 125 ∧ c ≠ 35 ∧ escC c = [c]) := by
  unfold escC escN
  by_cases h1 : c = 39
  · subst h1
    exact .inl ⟨by decide, [], rfl⟩
  by_cases h2 : c = 123
  · subst h2
    exact .inl ⟨by decide, [39], rfl⟩
  by_cases h3 : c = 125
  · subst h3
    exact .inl ⟨by decide, [39], rfl⟩
  by_cases h4 : c = 35
  · subst h4
    exact .inl ⟨by decide, [39], rfl⟩
  rw [if_neg h1, if_neg h2, if_neg h3, if_neg h4]
  exact .inr ⟨h1, h2, h3, h4, rfl⟩
theorem esc_ne : ∀ k : Nat, tl (mkS (escC k)) ≠ [] := fun k => by
  show escC k ≠ []
  rcases esc_cases k with ⟨_, s, e⟩ | ⟨_, _, _, _, e⟩ <;> rw [e] <;> exact List.cons_ne_nil _ _
/-- a sign of a text -/
theorem step_sign (hl : tx.length < 10000000) (hnc : nl ≠ cl) (hn : nl ∈ Lm) (hc : cl ∈ Lm) {m p : Nat} {pl : Int} {vs c0 : List V} {H : Hp} {t0 : T} {c : Nat} {s : List Nat} (ok : okC c) (al : AllL Lm H) (st : St C r dx tx nl cl p pl vs c0 H) (hN : Nodes (dv Lm H) t0 vs)
    (hd : (tl tx).drop p = escC c ++ s) (k : Go1 C C2 r dx tx Q nl cl Lm c0 pl t0 (.text ⟨#[c]⟩ .nil) m (p + (escC c).length) H) : Ok C C2 r dx tx Q (m + 1) H := by
  have hlen : tx.length = (tl tx).length := len_tl' tx
  have hvl : vs.length < sizeLine := by
    have h1 := st.z
    have : p < (tl tx).length := by
      rcases esc_cases c with ⟨_, s', e⟩ | ⟨_, _, _, _, e⟩ <;> rw [e] at hd <;> exact dr_lt hd
    exact sz_line (by omega)
  rcases esc_cases c with ⟨hm, s', e⟩ | ⟨n1, n2, n3, n4, e⟩
  · have hd' := hd
    rw [e] at hd'
    have hp := dr_lt hd'
    refine .inr ⟨p, nl, cl, pl, st.r, by omega, r, dx, nl, cl, tx, p, pl, 39, c0, rfl, st.r, hl, st.c, dr_get hd', .inr (.inr (.inl ⟨rfl, ?_⟩))⟩
    obtain ⟨j, hj, hjc⟩ := List.getElem_of_mem hm
    refine ⟨r, dx, nl, cl, tx, p, pl, c, j, vs, rfl, st.r, hl, st.n, hvl, by rw [List.getElem?_eq_getElem hj, hjc], fun i hi k' hk => ?_, sw_true (esc_ne c) hd, fun t ht => ?_⟩
    · have hne : k' ≠ c := by
        rintro rfl
        have h1 := (List.getElem?_eq_some_iff.mp hk)
        obtain ⟨hi1, hi2⟩ := h1
        have nd : escN.Nodup := by decide
        have := (List.getElem_inj nd (i := i) (j := j) (h₀ := hi1) (h₁ := hj)).mp (by rw [hi2, hjc])
        omega
      have hk' : k' ∈ escN := List.mem_of_getElem? hk
      rcases esc_cases k' with ⟨_, s2, e2⟩ | ⟨z1, z2, z3, z4, _⟩
      · refine sw_false (i := 1) (esc_ne k') hd' (by rw [tl_mk, e2]; simp) ?_
        rw [tl_mk, e2]
        show some c ≠ some k'
        intro z
        injection z with z
        exact hne z.symm
      · unfold escN at hk'
        simp only [List.mem_cons, List.not_mem_nil, or_false] at hk'
        rcases hk' with z | z | z | z <;> contradiction
    · have tr : t ≠ r := fun e => by rw [e, st.r] at ht; cases ht
      have tn : t ≠ nl := fun e => by rw [e, st.n] at ht; cases ht
      obtain ⟨a1, a2, a3⟩ := after_put (Lm := Lm) (u := .text ⟨#[c]⟩ .nil) (xs := [.str "text", .str ⟨#[c]⟩]) (p' := p + (escC c).length) hnc hn hc al st (by rw [e]; simp) ht
        (H' := upd (upd (upd H r (.ins C dx (rdF tx ((p + (escC c).length : Nat) : Int) nl cl pl))) t (.tup [.str "text", .str ⟨#[c]⟩])) nl (.lst (vs ++ [.ref t])))
        (fun a o h h1 h2 => by rw [upd_ne h2, upd_ne (ne_of_none h ht), upd_ne h1]; exact h) (by rw [upd_ne st.nr.symm, upd_ne tr.symm, upd_same]) (by rw [upd_ne tn, upd_same]) upd_same hN text_at
      exact k _ _ a1 a2 a3
  · rw [e] at hd k
    have hd' : (tl tx).drop p = c :: s := hd
    have hp := dr_lt hd'
    refine .inr ⟨p, nl, cl, pl, st.r, by omega, r, dx, nl, cl, tx, p, pl, c, c0, rfl, st.r, hl, st.c, dr_get hd', .inr (.inr (.inr ⟨n2, n3, n1, ?_⟩))⟩
    refine ⟨r, dx, nl, cl, tx, p, pl, c, vs, _, rfl, st.r, hl, dr_get hd', st.n, hvl, .inr ⟨ok, n4, n3, rfl⟩, fun t ht => ?_⟩
    have tr : t ≠ r := fun e => by rw [e, st.r] at ht; cases ht
    have tn : t ≠ nl := fun e => by rw [e, st.n] at ht; cases ht
    obtain ⟨a1, a2, a3⟩ := after_put (Lm := Lm) (u := .text ⟨#[c]⟩ .nil) (xs := [.str "text", .str ⟨#[c]⟩]) (p' := p + 1) hnc hn hc al st (by omega) ht
      (H' := upd (upd (upd H t (.tup [.str "text", .str ⟨#[c]⟩])) nl (.lst (vs ++ [.ref t]))) r (.ins C dx (rdF tx ((p + 1 : Nat) : Int) nl cl pl)))
      (fun a o h h1 h2 => by rw [upd_ne h1, upd_ne h2, upd_ne (ne_of_none h ht)]; exact h) upd_same (by rw [upd_ne tr, upd_ne tn, upd_same]) (by rw [upd_ne st.nr, upd_same]) hN text_at
    exact k _ _ a1 a2 a3
/-- a number's sign -/
theorem step_num (hl : tx.length < 10000000) (hnc : nl ≠ cl) (hn : nl ∈ Lm) (hc : cl ∈ Lm) {m p : Nat} {pl : Int} {vs c0 : List V} {H : Hp} {t0 : T} {s : List Nat} (hpl : 0 < pl) (al : AllL Lm H) (st : St C r dx tx nl cl p pl vs c0 H) (hN : Nodes (dv Lm H) t0 vs)
    (hd : (tl tx).drop p = 35 :: s) (k : Go1 C C2 r dx tx Q nl cl Lm c0 pl t0 (.num .nil) m (p + 1) H) : Ok C C2 r dx tx Q (m + 1) H := by
  have hlen : tx.length = (tl tx).length := len_tl' tx
  have hp := dr_lt hd
  have hvl : vs.length < sizeLine := sz_line (by have := st.z; omega)
  refine .inr ⟨p, nl, cl, pl, st.r, by omega, r, dx, nl, cl, tx, p, pl, 35, c0, rfl, st.r, hl, st.c, dr_get hd, .inr (.inr (.inr ⟨by decide, by decide, by decide, ?_⟩))⟩
  refine ⟨r, dx, nl, cl, tx, p, pl, 35, vs, _, rfl, st.r, hl, dr_get hd, st.n, hvl, .inl ⟨rfl, hpl, rfl⟩, fun t ht => ?_⟩
  have tr : t ≠ r := fun e => by rw [e, st.r] at ht; cases ht
  have tn : t ≠ nl := fun e => by rw [e, st.n] at ht; cases ht
  obtain ⟨a1, a2, a3⟩ := after_put (Lm := Lm) (u := .num .nil) (xs := [.str "number"]) (p' := p + 1) hnc hn hc al st (by omega) ht
    (H' := upd (upd (upd H t (.tup [.str "number"])) nl (.lst (vs ++ [.ref t]))) r (.ins C dx (rdF tx ((p + 1 : Nat) : Int) nl cl pl)))
    (fun a o h h1 h2 => by rw [upd_ne h1, upd_ne h2, upd_ne (ne_of_none h ht)]; exact h) upd_same (by rw [upd_ne tr, upd_ne tn, upd_same]) (by rw [upd_ne st.nr, upd_same]) hN fun Hd h => ⟨t, [], rfl, h, rfl⟩
  exact k _ _ a1 a2 a3
/-- names: a row of 1 to 8 letters -/
def Nam (n : List Nat) : Prop := n ≠ [] ∧ n.length ≤ 8 ∧ ∀ c ∈ n, c ∈ tl lettersS
theorem let_ns {c : Nat} (h : c ∈ tl lettersS) : ¬(c = 32 ∨ c = 10) := by
  have a : ∀ c ∈ tl lettersS, ¬(c = 32 ∨ c = 10) := by decide +kernel
  exact a c h
theorem ns_let {c : Nat} (h : c = 32 ∨ c = 10 ∨ c = 123 ∨ c = 125 ∨ c = 44) : c ∉ tl lettersS := by
  have a : ∀ c ∈ ([32, 10, 123, 125, 44] : List Nat), c ∉ tl lettersS := by decide +kernel
  exact a c (by rcases h with rfl | rfl | rfl | rfl | rfl <;> decide)
theorem hdn_gap {P : Nat → Prop} {g s : List Nat} (hg : Gp g) (h1 : P 32) (h2 : P 10) (hs : hdn P s) : hdn P (g ++ s) := fun c hc => by
  cases g with
  | nil => exact hs c hc
  | cons a g =>
    have : a = c := by simpa using hc
    subst this
    rcases hg a List.mem_cons_self with rfl | rfl
    · exact h1
    · exact h2
theorem hdn_cons {P : Nat → Prop} {c : Nat} {s : List Nat} (h : P c) : hdn P (c :: s) := fun d hd => by
  have : c = d := by simpa using hd
  rw [← this]
  exact h
theorem hdn_name {P : Nat → Prop} {n s : List Nat} (hn : Nam n) (h : ∀ c ∈ tl lettersS, P c) : hdn P (n ++ s) := fun d hd => by
  obtain ⟨h1, _, h3⟩ := hn
  cases n with
  | nil => exact absurd rfl h1
  | cons c n =>
    have : c = d := by simpa using hd
    rw [← this]
    exact h c (h3 c List.mem_cons_self)
/-- a show -/
theorem step_show (hl : tx.length < 10000000) (hnc : nl ≠ cl) (hn : nl ∈ Lm) (hc : cl ∈ Lm) {m p : Nat} {pl : Int} {vs c0 : List V} {H : Hp} {t0 : T} {n : Str} {g1 g2 s : List Nat} (hnm : Nam (tl n)) (hg1 : Gp g1) (hg2 : Gp g2) (al : AllL Lm H) (st : St C r dx tx nl cl p pl vs c0 H) (hN : Nodes (dv Lm H) t0 vs)
    (hd : (tl tx).drop p = [123] ++ g1 ++ tl n ++ g2 ++ [125] ++ s) (k : Go1 C C2 r dx tx Q nl cl Lm c0 pl t0 (.shw n .nil) m (p + ([123] ++ g1 ++ tl n ++ g2 ++ [125]).length) H) : Ok C C2 r dx tx Q (m + 1) H := by
  have hlen : tx.length = (tl tx).length := len_tl' tx
  have hd0 : (tl tx).drop p = 123 :: (g1 ++ (tl n ++ (g2 ++ (125 :: s)))) := by rw [hd]; simp
  have hp := dr_lt hd0
  have hvl : vs.length < sizeLine := sz_line (by have := st.z; omega)
  have d1 : (tl tx).drop (p + 1) = g1 ++ (tl n ++ (g2 ++ (125 :: s))) := dr_add (a := [123]) hd0
  have d2 := dr_add d1
  have d3 := dr_add d2
  have d4 := dr_add d3
  have hpos : 0 < (tl n).length := List.length_pos_iff.mpr hnm.1
  refine .inr ⟨p, nl, cl, pl, st.r, by omega, r, dx, nl, cl, tx, p, pl, 123, c0, rfl, st.r, hl, st.c, dr_get hd0, .inl ⟨rfl, ?_⟩⟩
  refine ⟨r, dx, nl, cl, tx, p, pl, g1.length, (tl n).length, g2.length, vs, rfl, st.r, hl, st.n, hvl, dr_get hd0, sp_of d1 hg1 (hdn_name hnm fun c h => let_ns h), hpos, hnm.2.1,
    row_of d2 hnm.2.2 (hdn_gap hg2 (ns_let (.inl rfl)) (ns_let (.inr (.inl rfl))) (hdn_cons (ns_let (.inr (.inr (.inr (.inl rfl))))))), sp_of d3 hg2 (hdn_cons (by decide)), .inl ⟨dr_get d4, fun t ht => ?_⟩⟩
  have htk : mkS (((tl tx).drop (p + 1 + g1.length)).take (tl n).length) = n := by rw [take_of d2]; rfl
  rw [htk]
  have tr : t ≠ r := fun e => by rw [e, st.r] at ht; cases ht
  have tn : t ≠ nl := fun e => by rw [e, st.n] at ht; cases ht
  have el : p + 1 + g1.length + (tl n).length + g2.length + 1 = p + ([123] ++ g1 ++ tl n ++ g2 ++ [125]).length := by simp; omega
  rw [el]
  obtain ⟨a1, a2, a3⟩ := after_put (Lm := Lm) (u := .shw n .nil) (xs := [.str "show", .str n]) (p' := p + ([123] ++ g1 ++ tl n ++ g2 ++ [125]).length) hnc hn hc al st (by simp) ht
    (H' := upd (upd (upd H r (.ins C dx (rdF tx ((p + ([123] ++ g1 ++ tl n ++ g2 ++ [125]).length : Nat) : Int) nl cl pl))) t (.tup [.str "show", .str n])) nl (.lst (vs ++ [.ref t])))
    (fun a o h h1 h2 => by rw [upd_ne h2, upd_ne (ne_of_none h ht), upd_ne h1]; exact h) (by rw [upd_ne st.nr.symm, upd_ne tr.symm, upd_same]) (by rw [upd_ne tn, upd_same]) upd_same hN fun Hd h => ⟨t, [], rfl, h, rfl⟩
  exact k _ _ a1 a2 a3
end
end Mw

namespace Mw
open PySem L2
/-- keys that may stand in a choice (b: a plural) -/
def KeyG (b : Bool) (k : V) : Prop := (∃ s : Str, k = .str s ∧ Nam (tl s) ∧ (b = true → k = .str "other" ∨ k ∈ catV)) ∨ (b = true ∧ ∃ i ∈ nums4, k = .int i)
def keyOf : V → L2.Key
  | .int i => .inl i
  | .str s => .inr s
  | _ => .inl 0
theorem keyOf_v {b : Bool} {k : V} (h : KeyG b k) : kV (keyOf k) = k := by
  rcases h with ⟨s, rfl, _⟩ | ⟨_, i, _, rfl⟩ <;> rfl
def KeyH (s : List Nat) : Prop := hdn (fun c => c = 32 ∨ c = 10 ∨ c = 123) s
theorem fig_ok : ∀ i ∈ nums4, (tl (toString i : Str)).all (fun c => decide (c ∈ tl figuresS)) = true ∧ (tl (toString i : Str)).length ≤ 3 ∧ tl (toString i : Str) ≠ [] ∧ (1 < (tl (toString i : Str)).length → (tl (toString i : Str))[0]? ≠ some 48) ∧ intText? (mkS (tl (toString i : Str))) = some i := by decide +kernel
theorem ns_fig {c : Nat} (h : c = 32 ∨ c = 10 ∨ c = 123) : c ∉ tl figuresS := by
  have a : ∀ c ∈ ([32, 10, 123] : List Nat), c ∉ tl figuresS := by decide +kernel
  exact a c (by rcases h with rfl | rfl | rfl <;> decide)
theorem key_at {b : Bool} {k : V} (hk : KeyG b k) {L s : List Nat} {p : Nat} (h : L.drop p = keyL k ++ s) (hs : KeyH s) : KeyAt L p b k (p + (keyL k).length) := by
  rcases hk with ⟨x, rfl, hn, ho⟩ | ⟨hb, i, hi, rfl⟩
  · have h' : L.drop p = tl x ++ s := h
    refine ⟨(tl x).length, List.length_pos_iff.mpr hn.1, .inr ⟨rfl, hn.2.1, row_of h' hn.2.2 (fun c hc => ns_let ?_), ?_, ho⟩⟩
    · rcases hs c hc with z | z | z
      · exact .inl z
      · exact .inr (.inl z)
      · exact .inr (.inr (.inl z))
    · rw [take_of h']
      rfl
  · obtain ⟨f1, f2, f3, f4, f5⟩ := fig_ok i hi
    have h' : L.drop p = 61 :: (tl (toString i : Str) ++ s) := h
    have d1 : L.drop (p + 1) = tl (toString i : Str) ++ s := dr_add (a := [61]) h'
    refine ⟨(tl (toString i : Str)).length, List.length_pos_iff.mpr f3, .inl ⟨hb, i, rfl, ?_, dr_get h', f2, row_of d1 (fun c hc => ?_) (fun c hc => ns_fig (hs c hc)), fun h1 => ?_, ?_⟩⟩
    · show p + (61 :: tl (toString i : Str)).length = _
      rw [List.length_cons]
      omega
    · exact of_decide_eq_true (List.all_eq_true.mp f1 c hc)
    · have := dr_at d1 0
      rw [Nat.add_zero, List.getElem?_append_left (by omega)] at this
      rw [this]
      exact f4 h1
    · rw [take_of d1]
      exact f5
theorem key_ns {b : Bool} {k : V} (hk : KeyG b k) (s : List Nat) : hdn (fun c => ¬(c = 32 ∨ c = 10)) (keyL k ++ s) := by
  rcases hk with ⟨x, rfl, hn, _⟩ | ⟨_, i, _, rfl⟩
  · exact hdn_name hn fun c h => let_ns h
  · exact hdn_cons (by decide)
theorem gap_keyH {g s : List Nat} (hg : Gp g) : KeyH (g ++ 123 :: s) := hdn_gap hg (.inl rfl) (.inr (.inl rfl)) (hdn_cons (.inr (.inr rfl)))
/-- no key begins like the mark of an offset -/
theorem key_off {k : V} (hk : KeyG true k) {tx : Str} {s : List Nat} {p : Nat} (h : (tl tx).drop p = keyL k ++ s) : Txt.startswith3 tx "offset:" (p : Int) = false := by
  have a : ∀ k ∈ (V.str "other" :: catV ++ nums4.map V.int), 2 ≤ (keyL k).length ∧ ¬((keyL k)[0]? = some 111 ∧ (keyL k)[1]? = some 102) := by decide +kernel
  have hm : k ∈ (V.str "other" :: catV ++ nums4.map V.int) := by
    rcases hk with ⟨x, rfl, _, ho⟩ | ⟨_, i, hi, rfl⟩
    · rcases ho rfl with z | z
      · rw [z]; exact List.mem_append_left _ List.mem_cons_self
      · exact List.mem_append_left _ (List.mem_cons_of_mem _ z)
    · exact List.mem_append_right _ (List.mem_map_of_mem hi)
  obtain ⟨h2, h3⟩ := a k hm
  have ne : tl ("offset:" : Str) ≠ [] := by decide +kernel
  have e0 : (tl ("offset:" : Str))[0]? = some 111 := rfl
  have e1 : (tl ("offset:" : Str))[1]? = some 102 := rfl
  have g0 : (keyL k ++ s)[0]? = (keyL k)[0]? := List.getElem?_append_left (by omega)
  have g1 : (keyL k ++ s)[1]? = (keyL k)[1]? := List.getElem?_append_left (by omega)
  by_cases z : (keyL k)[0]? = some 111
  · exact sw_false (i := 1) ne h (by decide +kernel) (by rw [g1, e1]; exact fun e => h3 ⟨z, e⟩)
  · exact sw_false (i := 0) ne h (by decide +kernel) (by rw [g0, e0]; exact z)
/-- heads that may stand -/
def HdG (b : Bool) (nm : Str) (off : Int) : Prop := Nam (tl nm) ∧ (b = true → off = 0 ∨ off = 1 ∨ off = 2)
theorem off_ok : ∀ off ∈ ([1, 2] : List Int), (tl (toString off : Str)).length = 1 ∧ (tl (toString off : Str)).all (fun c => decide (c ∈ tl figuresS)) = true ∧ intText? (mkS (tl (toString off : Str))) = some off := by decide +kernel
theorem kind_ok : ∀ b : Bool, (tl (kindS b)).length = 6 ∧ (tl (kindS b)).all (fun c => decide (c ∈ tl lettersS)) = true := by decide +kernel
theorem off_at {tx : Str} {off : Int} {e g5 s : List Nat} {k : V} {p : Nat} (ho : off = 0 ∨ off = 1 ∨ off = 2) (hk : KeyG true k) (hg5 : Gq1 g5) (he : (off = 0 ∧ e = []) ∨ (off ≠ 0 ∧ ∃ g, Gq1 g ∧ e = g ++ offW off)) (h : (tl tx).drop p = e ++ (g5 ++ (keyL k ++ s))) :
    ∃ p4 k0, OffAt tx p off p4 ∧ SpN (tl tx) p4 k0 ∧ p4 + k0 = p + e.length + g5.length := by
  rcases he with ⟨rfl, rfl⟩ | ⟨hne, g, hg, rfl⟩
  · have h' : (tl tx).drop p = g5 ++ (keyL k ++ s) := h
    have d := dr_add h'
    refine ⟨p + g5.length, 0, ⟨g5.length, sp_of h' hg5.1.2 (key_ns hk s), .inl ⟨key_off hk d, rfl, rfl⟩⟩, ?_, by simp⟩
    have := sp_of (g := []) d (fun _ h => by cases h) (key_ns hk s)
    exact this
  · have hm : off ∈ ([1, 2] : List Int) := by
      rcases ho with z | z | z
      · exact absurd z hne
      · rw [z]; decide
      · rw [z]; decide
    obtain ⟨o1, o2, o3⟩ := off_ok off hm
    have h1 : (tl tx).drop p = g ++ (tl ("offset:" : Str) ++ (tl (toString off : Str) ++ (g5 ++ (keyL k ++ s)))) := by
      rw [h]
      unfold offW
      simp
    have d1 := dr_add h1
    have l7 : (tl ("offset:" : Str)).length = 7 := by decide +kernel
    have d2 := dr_add d1
    rw [l7] at d2
    have d3 := dr_add d2
    rw [o1] at d3
    have h5 : hdn (fun c => c = 32 ∨ c = 10) (g5 ++ (keyL k ++ s)) := fun c hc => by
      cases g5 with
      | nil => exact absurd rfl hg5.1.1
      | cons a g5 =>
        have : a = c := by simpa using hc
        rw [← this]
        exact hg5.1.2 a List.mem_cons_self
    refine ⟨p + g.length + 7 + 1, g5.length, ⟨g.length, sp_of h1 hg.1.2 (hdn_cons (show ¬((111 : Nat) = 32 ∨ (111 : Nat) = 10) by decide)), .inr ⟨sw_true (by decide +kernel) d1, ?_, ?_, rfl⟩⟩, sp_of d3 hg5.1.2 (key_ns hk s), ?_⟩
    · have := row_of d2 (fun c hc => of_decide_eq_true (List.all_eq_true.mp o2 c hc)) (fun c hc => ns_fig (by rcases h5 c hc with z | z; exact .inl z; exact .inr (.inl z)))
      rw [o1] at this
      exact this
    · have := take_of d2
      rw [o1] at this
      rw [this]
      exact o3
    · unfold offW
      simp only [List.length_append, l7, o1]
      omega
section
variable {C C2 r dx : Addr} {tx : Str} {Q : VK} {nl cl : Addr}
theorem step_head (hl : tx.length < 10000000) {m p : Nat} {pl : Int} {vs c0 : List V} {H : Hp} {b : Bool} {nm : Str} {off : Int} {k : V} {h g5 g6 s : List Nat} (hG : HdG b nm off) (hk : KeyG b k) (hh : Hl (hdV b nm off) h) (hg5 : Gq1 g5) (hg6 : Gq1 g6) (st : St C r dx tx nl cl p pl vs c0 H) (hc0 : c0.length ≤ p)
    (hd : (tl tx).drop p = h ++ (g5 ++ (keyL k ++ (g6 ++ 123 :: s))))
    (K : ∀ (H' : Hp) (o dx2 hd cs t : Addr), Kp r cl H H' → H o = none → H hd = none → H cs = none → H t = none →
      H' r = some (.ins C dx (rdF tx ((p + (h ++ (g5 ++ (keyL k ++ (g6 ++ [123])))).length : Nat) : Int) t cl (if b then pl + 1 else pl))) → H' cl = some (.lst (c0 ++ [.ref o])) → H' o = some (.ins C2 dx2 (ocF hd nl cs k)) → H' hd = some (.tup (hdV b nm off)) → H' cs = some (.dK []) → H' t = some (.lst []) → Ok C C2 r dx tx Q m H') :
    Ok C C2 r dx tx Q (m + 1) H := by
  have hlen : tx.length = (tl tx).length := len_tl' tx
  obtain ⟨hnm, hoff⟩ := hG
  -- the parts of the head
  have parts : ∃ g1 g2 g3 g4 e, Gp g1 ∧ Gp g2 ∧ Gp g3 ∧ Gp g4 ∧ h = [123] ++ g1 ++ tl nm ++ g2 ++ [44] ++ g3 ++ tl (kindS b) ++ g4 ++ [44] ++ e ∧ (b = false → e = []) ∧ (b = true → (off = 0 ∧ e = []) ∨ (off ≠ 0 ∧ ∃ g, Gq1 g ∧ e = g ++ offW off)) := by
    cases b with
    | false =>
      obtain ⟨g1, g2, g3, g4, a1, a2, a3, a4, a5⟩ := hh
      exact ⟨g1, g2, g3, g4, [], a1.1, a2.1, a3.1.2, a4.1, by rw [a5, List.append_nil], fun _ => rfl, fun z => by cases z⟩
    | true =>
      obtain ⟨g1, g2, g3, g4, e, a1, a2, a3, a4, a5, a6⟩ := hh
      exact ⟨g1, g2, g3, g4, e, a1.1, a2.1, a3.1.2, a4.1, a5, (fun z => by cases z), fun _ => a6⟩
  obtain ⟨g1, g2, g3, g4, e, a1, a2, a3, a4, rfl, a6, a7⟩ := parts
  obtain ⟨k6, kl⟩ := kind_ok b
  have hd0 : (tl tx).drop p = 123 :: (g1 ++ (tl nm ++ (g2 ++ (44 :: (g3 ++ (tl (kindS b) ++ (g4 ++ (44 :: (e ++ (g5 ++ (keyL k ++ (g6 ++ 123 :: s)))))))))))) := by rw [hd]; simp
  have hp := dr_lt hd0
  have hvl : vs.length < sizeLine := sz_line (by have := st.z; omega)
  have d1 := dr_add (a := [123]) hd0
  have d2 := dr_add d1
  have d3 := dr_add d2
  have d4 := dr_add d3
  have d5 := dr_add (a := [44]) d4
  have d6 := dr_add d5
  have d7 := dr_add d6
  rw [k6] at d7
  have d8 := dr_add d7
  have d9 := dr_add (a := [44]) d8
  simp only [List.length_singleton] at d1 d2 d3 d4 d5 d6 d7 d8 d9
  have hpos : 0 < (tl nm).length := List.length_pos_iff.mpr hnm.1
  -- the offset
  have hofs : ∃ p4 k0, (if b then OffAt tx (p + 1 + g1.length + (tl nm).length + g2.length + 1 + g3.length + 6 + g4.length + 1) off p4 else p4 = p + 1 + g1.length + (tl nm).length + g2.length + 1 + g3.length + 6 + g4.length + 1) ∧ SpN (tl tx) p4 k0 ∧ p4 + k0 = p + 1 + g1.length + (tl nm).length + g2.length + 1 + g3.length + 6 + g4.length + 1 + e.length + g5.length := by
    cases b with
    | false =>
      have e0 := a6 rfl
      subst e0
      exact ⟨_, g5.length, rfl, sp_of d9 hg5.1.2 (key_ns hk _), by simp⟩
    | true => exact off_at (hoff rfl) hk hg5 (a7 rfl) d9
  obtain ⟨p4, k0, of1, of2, of3⟩ := hofs
  have d10 := dr_add (dr_add d9)
  rw [← of3] at d10
  have d11 := dr_add d10
  have d12 := dr_add d11
  refine .inr ⟨p, nl, cl, pl, st.r, by omega, r, dx, nl, cl, tx, p, pl, 123, c0, rfl, st.r, hl, st.c, dr_get hd0, .inl ⟨rfl, ?_⟩⟩
  refine ⟨r, dx, nl, cl, tx, p, pl, g1.length, (tl nm).length, g2.length, vs, rfl, st.r, hl, st.n, hvl, dr_get hd0, sp_of d1 a1 (hdn_name hnm fun c h => let_ns h), hpos, hnm.2.1,
    row_of d2 hnm.2.2 (hdn_gap a2 (ns_let (.inl rfl)) (ns_let (.inr (.inl rfl))) (hdn_cons (ns_let (.inr (.inr (.inr (.inr rfl))))))), sp_of d3 a2 (hdn_cons (by decide)), .inr ⟨⟨44, dr_get d4, by decide⟩, ?_⟩⟩
  have htk : mkS (((tl tx).drop (p + 1 + g1.length)).take (tl nm).length) = nm := by rw [take_of d2]; rfl
  rw [htk]
  have hrc : cl ≠ r := st.cr
  refine ⟨r, dx, nl, cl, tx, nm, p + 1 + g1.length + (tl nm).length + g2.length, pl, c0, b, off, keyOf k, 0, g3.length, g4.length, p4, k0, p4 + k0 + (keyL k).length, g6.length, rfl, upd_same, hl, (upd_ne hrc).trans st.c, sz_line (by omega), sp0 (dr_get d4) (by decide), dr_get d4, ?_, ?_, ?_, ?_, ?_, ?_, of2, ?_, ?_, ?_, fun H' o dx2 hdA cs t z1 z2 z3 z4 z5 z6 z7 z8 z9 z10 z11 => ?_⟩
  · exact sp_of d5 a3 (hdn_name (n := tl (kindS b)) ⟨(fun z => by rw [z] at k6; cases k6), by omega, fun c hc => of_decide_eq_true (List.all_eq_true.mp kl c hc)⟩ fun c h => let_ns h)
  · have := row_of d6 (fun c hc => of_decide_eq_true (List.all_eq_true.mp kl c hc)) (hdn_gap a4 (ns_let (.inl rfl)) (ns_let (.inr (.inl rfl))) (hdn_cons (ns_let (.inr (.inr (.inr (.inr rfl)))))))
    rw [k6] at this
    exact this
  · have := take_of d6
    rw [k6] at this
    exact this
  · exact sp_of d7 a4 (hdn_cons (by decide))
  · exact dr_get d8
  · exact of1
  · rw [keyOf_v hk]
    exact key_at hk d10 (gap_keyH hg6.1.2)
  · exact sp_of d11 hg6.1.2 (hdn_cons (by decide))
  · exact dr_get d12
  · have hu : ∀ a : Addr, upd H r (.ins C dx (rdF tx ((p + 1 + g1.length + (tl nm).length + g2.length : Nat) : Int) nl cl pl)) a = none → H a = none := fun a h => upd_none h
    refine K H' o dx2 hdA cs t (fun a u h h1 h2 => z1 a u (by rw [upd_ne h1]; exact h) h1 h2) (hu _ z2) (hu _ z3) (hu _ z4) (hu _ z5) ?_ z7 (by rw [z8, keyOf_v hk]) z9 z10 z11
    rw [z6]
    congr 3
    have : p4 + k0 + (keyL k).length + g6.length + 1 = p + ([123] ++ g1 ++ tl nm ++ g2 ++ [44] ++ g3 ++ tl (kindS b) ++ g4 ++ [44] ++ e ++ (g5 ++ (keyL k ++ (g6 ++ [123])))).length := by
      simp only [List.length_append, List.length_singleton, k6]
      omega
    rw [this]
end
end Mw

namespace Mw
open PySem L2
theorem kV_inj {y y' : L2.Key} (h : kV y = kV y') : y = y' := by
  cases y <;> cases y' <;> first | (injection h with h; rw [h]) | cases h
/-- what is not r, o, cs stands -/
def Kn (r o cs : Addr) (H H' : Hp) : Prop := ∀ a u, H a = some u → a ≠ r → a ≠ o → a ≠ cs → H' a = some u
section
variable {C C2 r dx : Addr} {tx : Str} {Q : VK} {nl cl : Addr} {Lo : List Addr}
/-- the data that end_message is told of -/
theorem own_data {H : Hp} {p : Nat} {pl : Int} {vs c0 : List V} (st : St C r dx tx nl cl p pl vs c0 H) {t : T} (hN : Nodes (dv (nl :: Lo) H) t vs) :
    Same (upd (dv (nl :: Lo) H) nl (.lst vs)) H ∧ (upd (dv (nl :: Lo) H) nl (.lst vs)) r = none ∧ At (upd (dv (nl :: Lo) H) nl (.lst vs)) nl t := by
  have hn : dv (nl :: Lo) H nl = none := by
    unfold dv
    rw [if_pos List.mem_cons_self]
  refine ⟨fun a o h => ?_, ?_, ⟨vs, upd_same, Nodes.same (same_new hn _) hN⟩⟩
  · by_cases e : a = nl
    · rw [e, upd_same] at h
      cases h
      rw [e]
      exact st.n
    · rw [upd_ne e] at h
      exact dv_out _ _ h
  · rw [upd_ne st.nr.symm]
    unfold dv
    rw [st.r]
    simp
/-- the joined message in a later heap -/
theorem own_msg {L' : List Addr} {H H1 H' : Hp} {p p1 : Nat} {pl pl1 : Int} {nl1 : Addr} {vs c0 ws : List V} {ml : Addr} {m t : T} (st : St C r dx tx nl cl p pl vs c0 H) (al : AllL (nl :: Lo) H) (nm : nl ∉ L') (hL : ∀ b ∈ L', b ∈ Lo ∨ H1 b = none) (hml : H ml = none) (s1 : Same (upd H r (.ins C dx (rdF tx (p1 : Nat) nl1 cl pl1))) H1)
    (hw : H1 ml = some (.lst ws)) (hN : Nodes (mix (upd (dv (nl :: Lo) H) nl (.lst vs)) H1) t ws) (e : t = m) (k : ∀ a o, H1 a = some o → ((∃ xs, o = .tup xs) ∨ ∃ xs, o = .lst xs) → a ∉ Lo → H' a = some o) (nm2 : nl ∉ Lo) : At (dv L' H') ml m := by
  subst e
  have ke : ∀ a o, H a = some o → a ≠ r → H1 a = some o := fun a o h z => s1 a o (by rw [upd_ne z]; exact h)
  have mlo : ml ∉ Lo := fun h => by obtain ⟨xs, e⟩ := al ml (List.mem_cons_of_mem _ h); rw [hml] at e; cases e
  have nL : ∀ {a : Addr} {o : HO}, a ∉ Lo → H1 a = some o → a ∉ L' := fun h1 h2 z => by
    rcases hL _ z with z | z
    · exact h1 z
    · rw [z] at h2
      cases h2
  refine ⟨ws, dv_lst (nL mlo hw) (k _ _ hw (.inr ⟨_, rfl⟩) mlo), Nodes.same (fun a o h => ?_) hN⟩
  rcases mix_in h with h | ⟨h0, xs, rfl, h1⟩
  · by_cases ea : a = nl
    · rw [ea, upd_same] at h
      cases h
      rw [ea]
      exact dv_lst nm (k _ _ (ke _ _ st.n st.nr) (.inr ⟨_, rfl⟩) nm2)
    · rw [upd_ne ea] at h
      obtain ⟨h1, h2, h3⟩ := dv_in h
      have ar : a ≠ r := by rintro rfl; rw [st.r] at h2; cases h2; rcases h3 with ⟨_, z⟩ | ⟨_, z⟩ <;> cases z
      have ao : a ∉ Lo := fun z => h1 (List.mem_cons_of_mem _ z)
      have := k _ _ (ke _ _ h2 ar) h3 ao
      rcases h3 with ⟨xs, rfl⟩ | ⟨xs, rfl⟩
      · exact dv_tup' (nL ao (ke _ _ h2 ar)) this
      · exact dv_lst (nL ao (ke _ _ h2 ar)) this
  · have ao : a ∉ Lo := fun z => by
      obtain ⟨ys, e⟩ := al a (List.mem_cons_of_mem _ z)
      have ar : a ≠ r := by rintro rfl; rw [st.r] at e; cases e
      have := ke _ _ e ar
      rw [h1] at this
      cases this
    exact dv_tup' (nL ao h1) (k _ _ h1 (.inl ⟨_, rfl⟩) ao)
theorem step_next (hl : tx.length < 10000000) {mm p : Nat} {pl : Int} {vs c1 hs : List V} {H : Hp} {b : Bool} {o dx2 hd ar cs : Addr} {key k' : V} {kvs : List (L2.Key × V)} {m : T} {g5 g6 s : List Nat} (hk : KeyG b key) (hno : key ≠ .str "other") (hk' : KeyG b k') (hkk : key ≠ k')
    (hg5 : Gq1 g5) (hg6 : Gq1 g6) (st : St C r dx tx nl cl p pl vs (c1 ++ [.ref o]) H) (al : AllL (nl :: Lo) H) (nm : nl ∉ Lo) (ho : H o = some (.ins C2 dx2 (ocF hd ar cs key))) (hh : H hd = some (.tup (.str (kindS b) :: hs))) (hhs : hs.length ≤ 2) (hcs : H cs = some (.dK kvs)) (hkl : kvs.length < 999) (hor : o ≠ r)
    (hv : valV kvs (keyOf key) = none) (hv' : valV kvs (keyOf k') = none) (hN : Nodes (dv (nl :: Lo) H) m.spl vs) (hw : Wf m.spl false) (hsz : m.spl.sz < 100000) (hpl : Pl m)
    (hdr : (tl tx).drop p = 125 :: (g5 ++ (keyL k' ++ (g6 ++ 123 :: s))))
    (K : ∀ (H' : Hp) (ml t2 : Addr), Kn r o cs H H' → H t2 = none → H' r = some (.ins C dx (rdF tx ((p + ([125] ++ (g5 ++ (keyL k' ++ (g6 ++ [123])))).length : Nat) : Int) t2 cl pl)) → H' o = some (.ins C2 dx2 (ocF hd ar cs k')) → H' cs = some (.dK (kvs ++ [(keyOf key, .ref ml)])) → H' t2 = some (.lst []) → At (dv (t2 :: Lo) H') ml m → Ok C C2 r dx tx Q mm H') :
    Ok C C2 r dx tx Q (mm + 1) H := by
  have hlen : tx.length = (tl tx).length := len_tl' tx
  have hp := dr_lt hdr
  have d1 := dr_add (a := [125]) hdr
  have d2 := dr_add d1
  have d3 := dr_add d2
  have d4 := dr_add d3
  simp only [List.length_singleton] at d1 d2 d3 d4
  obtain ⟨w1, w2, w3⟩ := own_data st hN
  have hput : putK kvs (keyOf key) = fun v => kvs ++ [(keyOf key, v)] := funext fun v => putK_new v hv
  have hne' : keyOf k' ≠ keyOf key := fun z => hkk (by rw [← keyOf_v hk, ← keyOf_v hk', z])
  refine .inr ⟨p, nl, cl, pl, st.r, by omega, r, dx, nl, cl, tx, p, pl, 125, _, rfl, st.r, hl, st.c, dr_get hdr, .inr (.inl ⟨rfl, by simp, ?_⟩)⟩
  refine ⟨r, dx, nl, cl, o, dx2, hd, ar, cs, tx, p, pl, c1, hs, key, kvs, b, _, m.spl, rfl, st.r, hl, dr_get hdr, st.c, ho, hh, hhs, hcs, by omega, hor, w1, w2, w3, hw, hsz, fun ml H1 ws hml s1 hws hNm => .inl ?_⟩
  rw [jt_spl m hpl] at hNm
  refine ⟨keyOf key, keyOf k', g5.length, p + 1 + g5.length + (keyL k').length, g6.length, (keyOf_v hk).symm, by rw [keyOf_v hk]; exact hno, sp_of d1 hg5.1.2 (key_ns hk' _), ?_, ?_, sp_of d3 hg6.1.2 (hdn_cons (by decide)), dr_get d4, fun t2 ht2 => ?_⟩
  · rw [keyOf_v hk']
    exact key_at hk' d2 (gap_keyH hg6.1.2)
  · rw [valV_put, if_neg hne']
    exact hv'
  have ke : ∀ a u, H a = some u → a ≠ r → H1 a = some u := fun a u h z => s1 a u (by rw [upd_ne z]; exact h)
  have hcr : cs ≠ r := fun z => by rw [z, st.r] at hcs; cases hcs
  have hco : cs ≠ o := fun z => by rw [z, ho] at hcs; cases hcs
  have ht0 : H t2 = none := by
    cases e : H t2 with
    | none => rfl
    | some u =>
      by_cases z : t2 = r
      · rw [z] at ht2
        rw [s1 _ _ upd_same] at ht2
        cases ht2
      · rw [ke _ _ e z] at ht2
        cases ht2
  have tr : t2 ≠ r := fun z => by rw [z, st.r] at ht0; cases ht0
  have to' : t2 ≠ o := fun z => by rw [z, ho] at ht0; cases ht0
  have tc : t2 ≠ cs := fun z => by rw [z, hcs] at ht0; cases ht0
  have ho1 := ke _ _ ho hor
  have hcs1 := ke _ _ hcs hcr
  have fin : ∀ a u, H1 a = some u → a ≠ r → a ≠ o → a ≠ cs → (upd (upd (upd (upd H1 cs (.dK (putK kvs (keyOf key) (.ref ml)))) o (.ins C2 dx2 (ocF hd ar cs (kV (keyOf k'))))) t2 (.lst [])) r (.ins C dx (rdF tx ((p + 1 + g5.length + (keyL k').length + g6.length + 1 : Nat) : Int) t2 cl pl))) a = some u := fun a u h z1 z2 z3 => by
    rw [upd_ne z1, upd_ne (ne_of_none h ht2), upd_ne z2, upd_ne z3]
    exact h
  refine K _ ml t2 (fun a u h z1 z2 z3 => fin a u (ke a u h z1) z1 z2 z3) ht0 ?_ ?_ ?_ ?_ (own_msg st al (fun z => ?_) (fun b hb => ?_) hml s1 hws hNm rfl (fun a u h z1 _ => fin a u h ?_ ?_ ?_) nm)
  · rw [upd_same]
    have : p + 1 + g5.length + (keyL k').length + g6.length + 1 = p + ([125] ++ (g5 ++ (keyL k' ++ (g6 ++ [123])))).length := by
      simp only [List.length_append, List.length_singleton]
      omega
    rw [this]
  · rw [upd_ne hor, upd_ne to'.symm, upd_same, keyOf_v hk']
  · rw [upd_ne hcr, upd_ne tc.symm, upd_ne hco, upd_same, hput]
  · rw [upd_ne tr, upd_same]
  · rcases List.mem_cons.mp z with z | z
    · rw [← z, st.n] at ht0
      cases ht0
    · exact nm z
  · rcases List.mem_cons.mp hb with z | z
    · rw [z]; exact .inr ht2
    · exact .inl z
  · rintro rfl
    rw [s1 _ _ upd_same] at h
    cases h
    rcases z1 with ⟨_, z⟩ | ⟨_, z⟩ <;> cases z
  · rintro rfl
    rw [ho1] at h
    cases h
    rcases z1 with ⟨_, z⟩ | ⟨_, z⟩ <;> cases z
  · rintro rfl
    rw [hcs1] at h
    cases h
    rcases z1 with ⟨_, z⟩ | ⟨_, z⟩ <;> cases z
theorem step_close (hl : tx.length < 10000000) {mm p : Nat} {pl : Int} {vs c1 hs ns : List V} {H : Hp} {b : Bool} {o dx2 hd ar cs : Addr} {kvs : List (L2.Key × V)} {m : T} {g7 s : List Nat}
    (hg7 : Gq g7) (st : St C r dx tx nl cl p pl vs (c1 ++ [.ref o]) H) (al : AllL (nl :: Lo) H) (nm : nl ∉ Lo) (hcl : cl ∈ Lo) (harl : ar ∈ Lo) (hac : ar ≠ cl) (har : H ar = some (.lst ns)) (hns : ns.length < p) (ho : H o = some (.ins C2 dx2 (ocF hd ar cs (.str "other")))) (hh : H hd = some (.tup (.str (kindS b) :: hs))) (hhs : hs.length ≤ 2) (hcs : H cs = some (.dK kvs)) (hkl : kvs.length < 999) (hor : o ≠ r)
    (hN : Nodes (dv (nl :: Lo) H) m.spl vs) (hw : Wf m.spl false) (hsz : m.spl.sz < 100000) (hpl : Pl m)
    (hdr : (tl tx).drop p = 125 :: (g7 ++ 125 :: s))
    (K : ∀ (H' : Hp) (ml u l : Addr) (ts : List Addr), Fx r cl ar H H' → H u = none → H l = none → (∀ z ∈ ts, H z = none) → H' r = some (.ins C dx (rdF tx ((p + ([125] ++ (g7 ++ [125])).length : Nat) : Int) ar cl (if b then pl - 1 else pl))) → H' cl = some (.lst c1) → H' ar = some (.lst (ns ++ [.ref u])) →
      H' u = some (.tup (.str (kindS b) :: hs ++ [.ref l, .ref ml])) → H' l = some (.lst (ts.map V.ref)) → Paired (fun (z : Addr) (q : L2.Key × V) => H' z = some (.tup [kV q.1, q.2])) ts kvs → At (dv Lo H') ml m → Ok C C2 r dx tx Q mm H') :
    Ok C C2 r dx tx Q (mm + 1) H := by
  have hlen : tx.length = (tl tx).length := len_tl' tx
  have hp := dr_lt hdr
  have d1 := dr_add (a := [125]) hdr
  have d2 := dr_add d1
  simp only [List.length_singleton] at d1 d2
  obtain ⟨w1, w2, w3⟩ := own_data st hN
  refine .inr ⟨p, nl, cl, pl, st.r, by omega, r, dx, nl, cl, tx, p, pl, 125, _, rfl, st.r, hl, st.c, dr_get hdr, .inr (.inl ⟨rfl, by simp, ?_⟩)⟩
  refine ⟨r, dx, nl, cl, o, dx2, hd, ar, cs, tx, p, pl, c1, hs, _, kvs, b, _, m.spl, rfl, st.r, hl, dr_get hdr, st.c, ho, hh, hhs, hcs, by omega, hor, w1, w2, w3, hw, hsz, fun ml H1 ws hml s1 hws hNm => .inr ⟨rfl, g7.length, ns, sp_of d1 hg7.1 (hdn_cons (by decide)), dr_get d2, har, sz_line (by omega), hac, fun H6 u l ts s6 hu hlq hts hnt h6u h6l hp6 => ?_⟩⟩
  rw [jt_spl m hpl] at hNm
  have ke : ∀ a v, H a = some v → a ≠ r → H1 a = some v := fun a v h z => s1 a v (by rw [upd_ne z]; exact h)
  have fr0 : ∀ a, H1 a = none → H a = none := fun a h => by
    cases e : H a with
    | none => rfl
    | some v =>
      by_cases z : a = r
      · rw [z] at h
        rw [s1 _ _ upd_same] at h
        cases h
      · rw [ke _ _ e z] at h
        cases h
  have harr : ar ≠ r := fun z => by rw [z, st.r] at har; cases har
  have har1 := ke _ _ har harr
  have hcl1 := ke _ _ st.c st.cr
  have k6 : ∀ a v, H1 a = some v → a ≠ r → a ≠ cl → H6 a = some v := fun a v h z1 z2 => s6 a v (by rw [upd_ne z1, upd_ne z2]; exact h)
  have ua : u ≠ ar := fun z => by rw [z, har1] at hu; cases hu
  have la : l ≠ ar := fun z => by rw [z, har1] at hlq; cases hlq
  have fin : ∀ a v, H1 a = some v → a ≠ r → a ≠ cl → a ≠ ar → (upd H6 ar (.lst (ns ++ [.ref u]))) a = some v := fun a v h z1 z2 z3 => by
    rw [upd_ne z3]
    exact k6 a v h z1 z2
  refine K _ ml u l ts (fun a v h z1 z2 z3 => fin a v (ke a v h z1) z1 z2 z3) (fr0 _ hu) (fr0 _ hlq) (fun z hz => fr0 _ (hts z hz)) ?_ ?_ upd_same ?_ ?_ ?_ (own_msg st al nm (fun b hb => .inl hb) hml s1 hws hNm rfl (fun a v h z1 z2 => fin a v h ?_ (fun e => z2 (by rw [e]; exact hcl)) (fun e => z2 (by rw [e]; exact harl))) nm)
  · rw [upd_ne harr.symm, s6 _ _ upd_same]
    have : p + 1 + g7.length + 1 = p + ([125] ++ (g7 ++ [125])).length := by
      simp only [List.length_append, List.length_singleton]
      omega
    rw [this]
  · rw [upd_ne hac.symm]
    exact s6 _ _ (by rw [upd_ne st.cr, upd_same])
  · rw [upd_ne ua]
    exact h6u
  · rw [upd_ne la]
    exact h6l
  · have pm : ∀ {ts : List Addr} {kvs : List (L2.Key × V)}, (∀ z ∈ ts, H1 z = none) → Paired (fun (z : Addr) (q : L2.Key × V) => H6 z = some (.tup [kV q.1, q.2])) ts kvs → Paired (fun (z : Addr) (q : L2.Key × V) => (upd H6 ar (.lst (ns ++ [.ref u]))) z = some (.tup [kV q.1, q.2])) ts kvs := by
      intro ts kvs h1 h2
      induction h2 with
      | nil => exact .nil
      | cons x t ih =>
        refine .cons ?_ (ih fun z hz => h1 z (List.mem_cons_of_mem _ hz))
        rw [upd_ne (fun z => by have := h1 _ List.mem_cons_self; rw [z, har1] at this; cases this)]
        exact x
    exact pm hts hp6
  · rintro rfl
    rw [s1 _ _ upd_same] at h
    cases h
    rcases z1 with ⟨_, z⟩ | ⟨_, z⟩ <;> cases z
end
end Mw

namespace Mw
open PySem L2
/-- how many steps a message takes to be read -/
def stp : T → Nat
  | .nil => 0
  | .text s r => (tl s).length + stp r
  | .shw _ r => stp r + 1
  | .num r => stp r + 1
  | .cho _ cs o r => stp cs + stp o + stp r + 2
  | .cas _ m r => stp m + stp r + 1
/-- messages that can be read -/
def Rg : T → Bool → Prop
  | .nil, _ => True
  | .text s r, i => (∀ c ∈ tl s, okC c) ∧ Rg r i
  | .shw n r, i => Nam (tl n) ∧ Rg r i
  | .num r, i => i = true ∧ Rg r i
  | .cho hd cs o r, i => (∃ b nm off, hd = hdV b nm off ∧ HdG b nm off ∧ cs.keys.Nodup ∧ (∀ k ∈ cs.keys, KeyG b k ∧ k ≠ .str "other") ∧ cs.len < 900 ∧ Rg cs (i || b) ∧ Rg o (i || b)) ∧ Pl o ∧ Wf o.spl false ∧ o.spl.sz < 100000 ∧ Rg r i
  | .cas _ m r, i => Pl m ∧ Wf m.spl false ∧ m.spl.sz < 100000 ∧ Rg m i ∧ Rg r i
def fk : T → V
  | .cas k _ _ => k
  | _ => .str "other"
/-- from behind the first key's brace on -/
def Lb : T → T → List Nat → Prop
  | .cas _ m r, o, x => ∃ ml g5 g6 x', Ln m ml ∧ Gq1 g5 ∧ Gq1 g6 ∧ Lb r o x' ∧ x = ml ++ 125 :: (g5 ++ (keyL (fk r) ++ (g6 ++ 123 :: x')))
  | _, o, x => ∃ ol g7, Ln o ol ∧ Gq g7 ∧ x = ol ++ 125 :: (g7 ++ [125])
theorem lb_of {o : T} {ol g5 g6 g7 : List Nat} (ho : Ln o ol) (h5 : Gq1 g5) (h6 : Gq1 g6) (h7 : Gq g7) : ∀ {cs : T} {cl : List Nat}, Wf cs true → Ln cs cl → ∃ ga gb x, Gq1 ga ∧ Gq1 gb ∧ Lb cs o x ∧ cl ++ (g5 ++ (tl "other" ++ (g6 ++ 123 :: (ol ++ 125 :: (g7 ++ [125]))))) = ga ++ (keyL (fk cs) ++ (gb ++ 123 :: x))
  | .nil, _, _, h => by
    subst h
    exact ⟨g5, g6, _, h5, h6, ⟨ol, g7, ho, h7, rfl⟩, rfl⟩
  | .text _ _, _, w, _ => by cases w.1
  | .shw _ _, _, w, _ => by cases w.1
  | .num _, _, w, _ => by cases w.1
  | .cho _ _ _ _, _, w, _ => by cases w.1
  | .cas k m r, _, w, h => by
    obtain ⟨a5, a6, ml, l', z5, z6, hm, rfl, hr⟩ := h
    obtain ⟨ga, gb, x, y1, y2, y3, y4⟩ := lb_of ho h5 h6 h7 w.2.2.2 hr
    refine ⟨a5, a6, _, z5, z6, ⟨ml, ga, gb, x, hm, y1, y2, y3, rfl⟩, ?_⟩
    rw [← y4]
    simp [fk]
theorem key_other (b : Bool) : KeyG b (.str "other") := .inl ⟨"other", rfl, by unfold Nam; exact ⟨by decide +kernel, by decide +kernel, by decide +kernel⟩, fun _ => .inl rfl⟩
theorem sgn_app (u : T) : ∀ cs : List Nat, (sgn cs .nil).app u = sgn cs u
  | [] => rfl
  | c :: cs => congrArg (T.text _) (sgn_app u cs)
/-- the cases that are read -/
def Dn (Hd : Hp) : T → List (L2.Key × V) → Prop
  | .nil, kvs => kvs = []
  | .cas k m r, kvs => ∃ y a ks, kvs = (y, .ref a) :: ks ∧ k = kV y ∧ At Hd a m ∧ Dn Hd r ks
  | _, _ => False
theorem Dn.same {H H' : Hp} (s : Same H H') : ∀ {D : T} {kvs : List (L2.Key × V)}, Dn H D kvs → Dn H' D kvs
  | .nil, _, h => h
  | .text _ _, _, h => h.elim
  | .shw _ _, _, h => h.elim
  | .num _, _, h => h.elim
  | .cho _ _ _ _, _, h => h.elim
  | .cas k m r, _, h => by
    obtain ⟨y, a, ks, e, e2, h1, h2⟩ := h
    exact ⟨y, a, ks, e, e2, h1.same s, Dn.same s h2⟩
theorem Dn.snoc {H : Hp} {y : L2.Key} {a : Addr} {m : T} (ha : At H a m) : ∀ {D : T} {kvs : List (L2.Key × V)}, Dn H D kvs → Dn H (D.app (.cas (kV y) m .nil)) (kvs ++ [(y, .ref a)])
  | .nil, _, h => by
    rw [show _ = [] from h]
    exact ⟨y, a, [], rfl, rfl, ha, rfl⟩
  | .text _ _, _, h => h.elim
  | .shw _ _, _, h => h.elim
  | .num _, _, h => h.elim
  | .cho _ _ _ _, _, h => h.elim
  | .cas k m' r, _, h => by
    obtain ⟨y', a', ks, rfl, e2, h1, h2⟩ := h
    exact ⟨y', a', ks ++ [(y, .ref a)], rfl, e2, h1, Dn.snoc ha h2⟩
theorem Dn.nodes {L : List Addr} {H H' : Hp} (al : AllL L H') (s : Same H (dv L H')) : ∀ {D : T} {kvs : List (L2.Key × V)} {ts : List Addr}, Dn H D kvs → Paired (fun (z : Addr) (q : L2.Key × V) => H' z = some (.tup [kV q.1, q.2])) ts kvs → Nodes (dv L H') D (ts.map V.ref)
  | .nil, _, _, h, p => by
    rw [show _ = [] from h] at p
    cases p
    exact rfl
  | .text _ _, _, _, h, _ => h.elim
  | .shw _ _, _, _, h, _ => h.elim
  | .num _, _, _, h, _ => h.elim
  | .cho _ _ _ _, _, _, h, _ => h.elim
  | .cas k m r, _, _, h, p => by
    obtain ⟨y, a, ks, rfl, rfl, ⟨mvs, h1, h3⟩, h2⟩ := h
    cases p with
    | cons x t => exact ⟨_, _, a, mvs, rfl, dv_tup al x, s _ _ h1, Nodes.same s h3, Dn.nodes al s h2 t⟩
theorem val_none {kvs : List (L2.Key × V)} {y : L2.Key} (h : kV y ∉ kvs.map fun q => kV q.1) : valV kvs y = none := by
  induction kvs with
  | nil => rfl
  | cons q kvs ih =>
    rw [valV_neg fun e => h (by rw [List.map_cons, e]; exact List.mem_cons_self)]
    exact ih fun z => h (by rw [List.map_cons]; exact List.mem_cons_of_mem _ z)
theorem Fx.all {C r dx cl nl : Addr} {fs : List (Str × V)} {L : List Addr} {H H' : Hp} {vs c0 : List V} (f : Fx r cl nl H H') (hr : H r = some (.ins C dx fs)) (hn : H' nl = some (.lst vs)) (hc : H' cl = some (.lst c0)) (al : AllL L H) : AllL L H' := fun b hb => by
  obtain ⟨xs, e⟩ := al b hb
  by_cases z1 : b = nl
  · rw [z1]; exact ⟨_, hn⟩
  by_cases z2 : b = cl
  · rw [z2]; exact ⟨_, hc⟩
  exact ⟨xs, f b _ e (by rintro rfl; rw [hr] at e; cases e) z2 z1⟩
theorem Fx.free {r cl nl u : Addr} {H H' : Hp} {a b c : HO} (f : Fx r cl nl H H') (hr : H' r = some a) (hc : H' cl = some b) (hn : H' nl = some c) (hu : H' u = none) : H u = none := by
  cases e : H u with
  | none => rfl
  | some v =>
    have := f u v e (by rintro rfl; rw [hr] at hu; cases hu) (by rintro rfl; rw [hc] at hu; cases hu) (by rintro rfl; rw [hn] at hu; cases hu)
    rw [hu] at this
    cases this
section
variable (C C2 r dx cl : Addr) (tx : Str) (Q : VK)
def RdM (t : T) : Prop := ∀ (i : Bool) (nl : Addr) (Lm : List Addr) (m p : Nat) (pl : Int) (vs c0 : List V) (H : Hp) (t0 : T) (l rest : List Nat), Rg t i → Wf t false → nl ∈ Lm → cl ∈ Lm → nl ≠ cl → AllL Lm H → St C r dx tx nl cl p pl vs c0 H → c0.length ≤ p → Nodes (dv Lm H) t0 vs → Ln t l →
  (tl tx).drop p = l ++ rest → (i = true → 0 < pl) → 0 ≤ pl → Go1 C C2 r dx tx Q nl cl Lm c0 pl t0 t.spl m (p + l.length) H → Ok C C2 r dx tx Q (m + stp t) H
def RdC (cs : T) : Prop := ∀ (o : T) (j b : Bool) (nI ar oA dx2 hdA csA : Addr) (Lo : List Addr) (m p : Nat) (pl : Int) (c1 hs ns : List V) (H : Hp) (D t0 : T) (kvs : List (L2.Key × V)) (x rest : List Nat),
  RdM C C2 r dx cl tx Q o → Rg cs j → Wf cs true → Rg o j → Wf o false → Pl o → Wf o.spl false → o.spl.sz < 100000 → ((kvs.map fun q => kV q.1) ++ cs.keys).Nodup → (∀ k ∈ (kvs.map fun q => kV q.1) ++ cs.keys, KeyG b k ∧ k ≠ .str "other") → kvs.length + cs.len < 900 → hs.length ≤ 2 →
  AllL (nI :: Lo) H → nI ∉ Lo → cl ∈ Lo → ar ∈ Lo → ar ≠ cl → St C r dx tx nI cl p pl [] (c1 ++ [.ref oA]) H → c1.length + 1 ≤ p → H ar = some (.lst ns) → ns.length < p → Nodes (dv (nI :: Lo) H) t0 ns → H oA = some (.ins C2 dx2 (ocF hdA ar csA (fk cs))) → H hdA = some (.tup (.str (kindS b) :: hs)) → H csA = some (.dK kvs) → oA ≠ r → Dn (dv (nI :: Lo) H) D kvs →
  Lb cs o x → (tl tx).drop p = x ++ rest → (j = true → 0 < pl) → 0 ≤ pl →
  (∀ H' u, (∀ a v, H a = some v → a ≠ r → a ≠ cl → a ≠ ar → a ≠ nI → a ≠ oA → a ≠ csA → H' a = some v) → H u = none → St C r dx tx ar cl (p + x.length) (if b then pl - 1 else pl) (ns ++ [.ref u]) c1 H' → Nodes (dv Lo H') (t0.app (.cho (.str (kindS b) :: hs) (D.app cs) o .nil)) (ns ++ [.ref u]) → Ok C C2 r dx tx Q m H') →
  Ok C C2 r dx tx Q (m + (stp cs + stp o + 1)) H
variable {C C2 r dx cl tx Q}
theorem Go1.then {nl : Addr} {Lm : List Addr} {c0 : List V} {pl : Int} {t0 u w : T} {m p p1 : Nat} {H H1 : Hp} (f : Fx r cl nl H H1) (k : Go1 C C2 r dx tx Q nl cl Lm c0 pl t0 (u.app w) m p H) (hp : p1 = p) : Go1 C C2 r dx tx Q nl cl Lm c0 pl (t0.app u) w m p1 H1 := fun H' vs' st fx hN => by
  subst hp
  rw [app_assoc] at hN
  exact k H' vs' st (f.trans fx) hN
theorem rd_signs (hl : tx.length < 10000000) {nl : Addr} {Lm : List Addr} (hnc : nl ≠ cl) (hn : nl ∈ Lm) (hc : cl ∈ Lm) : ∀ (cs : List Nat) {m p : Nat} {pl : Int} {vs c0 : List V} {H : Hp} {t0 : T} {rest : List Nat}, (∀ c ∈ cs, okC c) → AllL Lm H → St C r dx tx nl cl p pl vs c0 H → Nodes (dv Lm H) t0 vs →
    (tl tx).drop p = escL cs ++ rest → Go1 C C2 r dx tx Q nl cl Lm c0 pl t0 (sgn cs .nil) m (p + (escL cs).length) H → Ok C C2 r dx tx Q (m + cs.length) H
  | [], m, p, pl, vs, c0, H, t0, rest, _, al, st, hN, _, k => k H vs st (Fx.refl H) (by rw [show sgn [] T.nil = T.nil from rfl, app_nil]; exact hN)
  | c :: cs, m, p, pl, vs, c0, H, t0, rest, ok, al, st, hN, hd, k => by
    have hd' : (tl tx).drop p = escC c ++ (escL cs ++ rest) := by rw [hd]; simp [escL]
    refine step_sign (m := m + cs.length) hl hnc hn hc (ok c List.mem_cons_self) al st hN hd' fun H1 vs1 st1 f1 hN1 => ?_
    refine rd_signs hl hnc hn hc cs (fun d hd => ok d (List.mem_cons_of_mem _ hd)) (f1.all st.r st1.n st1.c al) st1 hN1 (dr_add hd') ?_
    refine Go1.then f1 (u := .text ⟨#[c]⟩ .nil) (w := sgn cs .nil) k ?_
    show p + (escC c).length + (escL cs).length = p + (escC c ++ escL cs).length
    rw [List.length_append]
    omega
theorem kind_of {H : Hp} {a r C dx : Addr} {fs : List (Str × V)} {o : HO} (hr : H r = some (.ins C dx fs)) (h : H a = some o) (k : (∃ xs, o = .tup xs) ∨ ∃ xs, o = .lst xs) : a ≠ r := by
  rintro rfl
  rw [hr] at h
  cases h
  rcases k with ⟨_, e⟩ | ⟨_, e⟩ <;> cases e
theorem kind_dk {H : Hp} {a c : Addr} {kvs : List (L2.Key × V)} {o : HO} (hr : H c = some (.dK kvs)) (h : H a = some o) (k : (∃ xs, o = .tup xs) ∨ ∃ xs, o = .lst xs) : a ≠ c := by
  rintro rfl
  rw [hr] at h
  cases h
  rcases k with ⟨_, e⟩ | ⟨_, e⟩ <;> cases e
theorem rdC_nil (hl : tx.length < 10000000) : RdC C C2 r dx cl tx Q .nil := by
  intro o j b nI ar oA dx2 hdA csA Lo m p pl c1 hs ns H D t0 kvs x rest Mo _ _ Ro Wo Po Ws Zs nd ks kl hhs al nI' clo aro aoc st hc1 har hns hN ho hh hcs hor hD hLb hd hj h0 K
  obtain ⟨ol, g7, hol, hg7, rfl⟩ := hLb
  have hd' : (tl tx).drop p = ol ++ (125 :: (g7 ++ 125 :: rest)) := by rw [hd]; simp
  have nIcl : nI ≠ cl := fun e => nI' (by rw [e]; exact clo)
  have clm : cl ∈ nI :: Lo := List.mem_cons_of_mem _ clo
  have e0 : m + (stp .nil + stp o + 1) = (m + 1) + stp o := by simp only [stp]; omega
  rw [e0]
  refine Mo j nI (nI :: Lo) (m + 1) p pl [] _ H .nil ol _ Ro Wo List.mem_cons_self clm nIcl al st (by rw [List.length_append, List.length_singleton]; omega) rfl hol hd' hj h0 fun H1 vs1 st1 f1 hN1 => ?_
  have al1 := f1.all st.r st1.n st1.c al
  have ke : ∀ {a : Addr} {u : HO}, H a = some u → a ≠ r → (∀ xs, u ≠ .lst xs) → H1 a = some u := fun h z1 z2 => f1 _ _ h z1 (by rintro rfl; rw [st.c] at h; cases h; exact z2 _ rfl) (by rintro rfl; rw [st.n] at h; cases h; exact z2 _ rfl)
  have hcr : csA ≠ r := fun z => by rw [z, st.r] at hcs; cases hcs
  have hhr : hdA ≠ r := fun z => by rw [z, st.r] at hh; cases hh
  have har1 : H1 ar = some (.lst ns) := f1 _ _ har (by rintro rfl; rw [st.r] at har; cases har) aoc (fun e => nI' (by rw [← e]; exact aro))
  have hd1 := dr_add hd'
  refine step_close (nl := nI) (Lo := Lo) (ns := ns) (hd := hdA) hl hg7 st1 al1 nI' clo aro aoc har1 (by omega) (ke ho hor (fun _ z => by cases z)) (ke hh hhr (fun _ z => by cases z)) hhs (ke hcs hcr (fun _ z => by cases z)) (by omega) hor hN1 Ws Zs Po hd1 fun H2 ml u l ts f2 hu hlq hts hr2 hc2 ha2 hu2 hl2 hp2 hml => ?_
  have alo2 : AllL Lo H2 := f2.all (L := Lo) st1.r ha2 hc2 (fun b hb => al1 b (List.mem_cons_of_mem _ hb))
  have sd : Same (dv (nI :: Lo) H) (dv Lo H2) := ((f1.dv st.r clm List.mem_cons_self).trans dv_sub).trans (f2.dv st1.r clo aro)
  have lno : l ∉ Lo := fun h => by obtain ⟨xs, e⟩ := al1 l (List.mem_cons_of_mem _ h); rw [hlq] at e; cases e
  refine K H2 u (fun a v h z1 z2 z3 z4 z5 z6 => f2 a v (f1 a v h z1 z2 z4) z1 z2 z3) (f1.free st1.r st1.c st1.n hu) ⟨?_, ha2, hc2, by rw [List.length_append, List.length_singleton]; simp; omega⟩ ?_
  · rw [hr2]
    have : p + ol.length + ([125] ++ (g7 ++ [125])).length = p + (ol ++ 125 :: (g7 ++ [125])).length := by
      simp only [List.length_append, List.length_singleton, List.length_cons, List.length_nil]
      omega
    rw [this]
  · rw [app_nil]
    obtain ⟨ws, hm1, hm2⟩ := hml
    exact Nodes.app (show Nodes (dv Lo H2) (.cho (.str (kindS b) :: hs) D o .nil) [.ref u] from ⟨u, [], l, ts.map V.ref, ml, ws, rfl, dv_tup alo2 hu2, dv_lst lno hl2, Dn.nodes alo2 sd hD hp2, hm1, hm2, rfl⟩) (Nodes.same sd hN)
theorem rdC_cas (hl : tx.length < 10000000) {k : V} {mt rt : T} (IHm : RdM C C2 r dx cl tx Q mt) (IHr : RdC C C2 r dx cl tx Q rt) : RdC C C2 r dx cl tx Q (.cas k mt rt) := by
  intro o j b nI ar oA dx2 hdA csA Lo m p pl c1 hs ns H D t0 kvs x rest Mo Rc Wc Ro Wo Po Ws Zs nd ks kl hhs al nI' clo aro aoc st hc1 har hns hN ho hh hcs hor hD hLb hd hj h0 K
  obtain ⟨ml, g5, g6, x', hml, hg5, hg6, hLr, rfl⟩ := hLb
  obtain ⟨Pm, Wm, Zm, Rm, Rr⟩ := Rc
  have hd' : (tl tx).drop p = ml ++ (125 :: (g5 ++ (keyL (fk rt) ++ (g6 ++ 123 :: (x' ++ rest))))) := by rw [hd]; simp
  have nIcl : nI ≠ cl := fun e => nI' (by rw [e]; exact clo)
  have clm : cl ∈ nI :: Lo := List.mem_cons_of_mem _ clo
  have e0 : m + (stp (.cas k mt rt) + stp o + 1) = (m + (stp rt + stp o + 1) + 1) + stp mt := by simp only [stp]; omega
  rw [e0]
  have kk : KeyG b k ∧ k ≠ .str "other" := ks k (List.mem_append_right _ (by show k ∈ k :: rt.keys; exact List.mem_cons_self))
  have nd' : ((kvs.map fun q => kV q.1) ++ k :: rt.keys).Nodup := nd
  have kf : KeyG b (fk rt) ∧ k ≠ fk rt ∧ fk rt ∉ kvs.map fun q => kV q.1 := by
    have other : KeyG b (.str "other") ∧ k ≠ .str "other" ∧ V.str "other" ∉ kvs.map fun q => kV q.1 := ⟨key_other b, kk.2, fun z => (ks _ (List.mem_append_left _ z)).2 rfl⟩
    cases rt with
    | cas k2 m2 r2 =>
      have hk2 : k2 ∈ k :: (T.cas k2 m2 r2).keys := List.mem_cons_of_mem _ (by show k2 ∈ k2 :: r2.keys; exact List.mem_cons_self)
      refine ⟨(ks k2 (List.mem_append_right _ hk2)).1, ?_, fun z => ?_⟩
      · have := (List.nodup_append.mp nd').2.1
        rintro rfl
        exact (List.nodup_cons.mp this).1 (by show k ∈ k :: r2.keys; exact List.mem_cons_self)
      · exact (List.nodup_append.mp nd').2.2 k2 z k2 hk2 rfl
    | nil => exact other
    | text _ _ => exact other
    | shw _ _ => exact other
    | num _ => exact other
    | cho _ _ _ _ => exact other
  have kn : k ∉ kvs.map fun q => kV q.1 := fun z => (List.nodup_append.mp nd').2.2 k z k List.mem_cons_self rfl
  refine IHm j nI (nI :: Lo) _ p pl [] _ H .nil ml _ Rm Wc.2.2.1 List.mem_cons_self clm nIcl al st (by rw [List.length_append, List.length_singleton]; omega) rfl hml hd' hj h0 fun H1 vs1 st1 f1 hN1 => ?_
  have al1 := f1.all st.r st1.n st1.c al
  have ke : ∀ {a : Addr} {u : HO}, H a = some u → a ≠ r → (∀ xs, u ≠ .lst xs) → H1 a = some u := fun h z1 z2 => f1 _ _ h z1 (by rintro rfl; rw [st.c] at h; cases h; exact z2 _ rfl) (by rintro rfl; rw [st.n] at h; cases h; exact z2 _ rfl)
  have hcr : csA ≠ r := fun z => by rw [z, st.r] at hcs; cases hcs
  have hhr : hdA ≠ r := fun z => by rw [z, st.r] at hh; cases hh
  have har1 : H1 ar = some (.lst ns) := f1 _ _ har (by rintro rfl; rw [st.r] at har; cases har) aoc (fun e => nI' (by rw [← e]; exact aro))
  have ho1 := ke ho hor (fun _ z => by cases z)
  have hh1 := ke hh hhr (fun _ z => by cases z)
  have hcs1 := ke hcs hcr (fun _ z => by cases z)
  have hd1 := dr_add hd'
  refine step_next (nl := nI) (Lo := Lo) (hd := hdA) (k' := fk rt) hl kk.1 kk.2 kf.1 kf.2.1 hg5 hg6 st1 al1 nI' ho1 hh1 hhs hcs1 (by omega) hor (val_none (by rw [keyOf_v kk.1]; exact kn)) (val_none (by rw [keyOf_v kf.1]; exact kf.2.2)) hN1 Wm Zm Pm hd1 fun H2 mA t2 n2 ht2 hr2 ho2 hcs2 htl2 hmA => ?_
  have hdl := dr_add (a := [125] ++ (g5 ++ (keyL (fk rt) ++ (g6 ++ [123])))) (s := x' ++ rest) (by rw [hd1]; simp)
  have lst2 : ∀ {a : Addr} {xs : List V}, H1 a = some (.lst xs) → H2 a = some (.lst xs) := fun h => n2 _ _ h (kind_of st1.r h (.inr ⟨_, rfl⟩)) (kind_of ho1 h (.inr ⟨_, rfl⟩)) (kind_dk hcs1 h (.inr ⟨_, rfl⟩))
  have tup2 : ∀ {a : Addr} {xs : List V}, H1 a = some (.tup xs) → H2 a = some (.tup xs) := fun h => n2 _ _ h (kind_of st1.r h (.inl ⟨_, rfl⟩)) (kind_of ho1 h (.inl ⟨_, rfl⟩)) (kind_dk hcs1 h (.inl ⟨_, rfl⟩))
  have t2o : t2 ∉ Lo := fun h => by obtain ⟨xs, e⟩ := al1 t2 (List.mem_cons_of_mem _ h); rw [ht2] at e; cases e
  have al2 : AllL (t2 :: Lo) H2 := fun b hb => by
    rcases List.mem_cons.mp hb with rfl | hb
    · exact ⟨_, htl2⟩
    · obtain ⟨xs, e⟩ := al1 b (List.mem_cons_of_mem _ hb)
      exact ⟨xs, lst2 e⟩
  have sd : Same (dv (nI :: Lo) H1) (dv (t2 :: Lo) H2) := dv_mono fun a u h1 h2 h3 => ⟨fun z => by
      rcases List.mem_cons.mp z with z | z
      · rw [z, ht2] at h2
        cases h2
      · exact h1 (List.mem_cons_of_mem _ z), by
      rcases h3 with ⟨xs, rfl⟩ | ⟨xs, rfl⟩
      · exact tup2 h2
      · exact lst2 h2⟩
  have sd0 := (f1.dv st.r clm List.mem_cons_self).trans sd
  have hst2 : St C r dx tx t2 cl (p + ml.length + ([125] ++ (g5 ++ (keyL (fk rt) ++ (g6 ++ [123])))).length) pl [] (c1 ++ [.ref oA]) H2 := ⟨hr2, htl2, lst2 st1.c, Nat.zero_le _⟩
  refine IHr o j b t2 ar oA dx2 hdA csA Lo m _ pl c1 hs ns H2 (D.app (.cas k mt .nil)) t0 (kvs ++ [(keyOf k, .ref mA)]) x' rest Mo Rr Wc.2.2.2 Ro Wo Po Ws Zs ?_ ?_ ?_ hhs al2 t2o clo aro aoc hst2 (by omega) (lst2 har1) (by omega) (Nodes.same sd0 hN) ho2 (tup2 hh1) hcs2 hor ?_ hLr hdl hj h0 fun H' u pr hu st' hN' => ?_
  · rw [List.map_append, List.append_assoc]
    show ((kvs.map fun q => kV q.1) ++ (kV (keyOf k) :: rt.keys)).Nodup
    rw [keyOf_v kk.1]
    exact nd'
  · intro q hq
    rw [List.map_append, List.append_assoc] at hq
    have hq : q ∈ (kvs.map fun q => kV q.1) ++ (kV (keyOf k) :: rt.keys) := hq
    rw [keyOf_v kk.1] at hq
    exact ks q hq
  · rw [List.length_append, List.length_singleton]
    have : (T.cas k mt rt).len = rt.len + 1 := rfl
    omega
  · have := Dn.snoc (y := keyOf k) hmA (Dn.same sd0 hD)
    rw [keyOf_v kk.1] at this
    exact this
  · have f12 : ∀ a v, H a = some v → a ≠ r → a ≠ cl → a ≠ nI → a ≠ oA → a ≠ csA → H2 a = some v := fun a v h z1 z2 z3 z4 z5 => n2 a v (f1 a v h z1 z2 z3) z1 z4 z5
    have at2 : ∀ a v, H a = some v → a ≠ t2 := fun a v h z => by
      have := f1.free st1.r st1.c st1.n ht2
      rw [← z, h] at this
      cases this
    have hu0 : H u = none := by
      cases e : H u with
      | none => rfl
      | some v =>
        have hb : ∀ {a : Addr} {w : HO}, H2 a = some w → u ≠ a := fun h z => by rw [z, h] at hu; cases hu
        have := f12 u v e (hb hr2) (hb (lst2 st1.c)) (hb (lst2 st1.n)) (hb ho2) (hb hcs2)
        rw [hu] at this
        cases this
    refine K H' u (fun a v h z1 z2 z3 z4 z5 z6 => pr a v (f12 a v h z1 z2 z4 z5 z6) z1 z2 z3 (at2 a v h) z5 z6) hu0 ?_ ?_
    · have : p + ml.length + ([125] ++ (g5 ++ (keyL (fk rt) ++ (g6 ++ [123])))).length + x'.length = p + (ml ++ 125 :: (g5 ++ (keyL (fk rt) ++ (g6 ++ 123 :: x')))).length := by
        simp only [List.length_append, List.length_singleton, List.length_cons, List.length_nil]
        omega
      rw [this] at st'
      exact st'
    · rw [app_assoc] at hN'
      exact hN'
end
end Mw

namespace Mw
open PySem L2
section
variable {C C2 r dx cl : Addr} {tx : Str} {Q : VK}
theorem rdM_nil : RdM C C2 r dx cl tx Q .nil := by
  intro i nl Lm m p pl vs c0 H t0 l rest _ _ _ _ _ _ st _ hN hl _ _ _ k
  have : l = [] := hl
  subst this
  exact k H vs st (Fx.refl H) (by rw [show T.nil.spl = T.nil from rfl, app_nil]; exact hN)
theorem rdM_text (hl : tx.length < 10000000) {s : Str} {rt : T} (IH : RdM C C2 r dx cl tx Q rt) : RdM C C2 r dx cl tx Q (.text s rt) := by
  intro i nl Lm m p pl vs c0 H t0 l rest R W hn hc hnc al st hc0 hN hL hd hi h0 k
  obtain ⟨l', rfl, hL'⟩ := hL
  have hd' : (tl tx).drop p = escL (tl s) ++ (l' ++ rest) := by rw [hd]; simp
  have e0 : m + stp (.text s rt) = (m + stp rt) + (tl s).length := by simp only [stp]; omega
  rw [e0]
  refine rd_signs hl hnc hn hc (tl s) R.1 al st hN hd' fun H1 vs1 st1 f1 hN1 => ?_
  refine IH i nl Lm m _ pl vs1 c0 H1 _ l' rest R.2 W.2 hn hc hnc (f1.all st.r st1.n st1.c al) st1 (by omega) hN1 hL' (dr_add hd') hi h0 ?_
  refine Go1.then f1 (w := rt.spl) (u := sgn (tl s) .nil) ?_ rfl
  rw [sgn_app]
  have : p + (escL (tl s) ++ l').length = p + (escL (tl s)).length + l'.length := by rw [List.length_append]; omega
  rw [this] at k
  exact k
theorem rdM_shw (hl : tx.length < 10000000) {n : Str} {rt : T} (IH : RdM C C2 r dx cl tx Q rt) : RdM C C2 r dx cl tx Q (.shw n rt) := by
  intro i nl Lm m p pl vs c0 H t0 l rest R W hn hc hnc al st hc0 hN hL hd hi h0 k
  obtain ⟨g1, g2, l', hg1, hg2, rfl, hL'⟩ := hL
  have hd' : (tl tx).drop p = [123] ++ g1 ++ tl n ++ g2 ++ [125] ++ (l' ++ rest) := by rw [hd]; simp
  have e0 : m + stp (.shw n rt) = (m + stp rt) + 1 := by simp only [stp]; omega
  rw [e0]
  refine step_show hl hnc hn hc R.1 hg1.1 hg2.1 al st hN hd' fun H1 vs1 st1 f1 hN1 => ?_
  refine IH i nl Lm m _ pl vs1 c0 H1 _ l' rest R.2 W.2 hn hc hnc (f1.all st.r st1.n st1.c al) st1 (by omega) hN1 hL' (dr_add hd') hi h0 ?_
  refine Go1.then f1 (w := rt.spl) (u := .shw n .nil) ?_ rfl
  have : p + ([123] ++ g1 ++ tl n ++ g2 ++ [125] ++ l').length = p + ([123] ++ g1 ++ tl n ++ g2 ++ [125]).length + l'.length := by simp only [List.length_append]; omega
  rw [this] at k
  exact k
theorem rdM_num (hl : tx.length < 10000000) {rt : T} (IH : RdM C C2 r dx cl tx Q rt) : RdM C C2 r dx cl tx Q (.num rt) := by
  intro i nl Lm m p pl vs c0 H t0 l rest R W hn hc hnc al st hc0 hN hL hd hi h0 k
  obtain ⟨l', rfl, hL'⟩ := hL
  have hd' : (tl tx).drop p = 35 :: (l' ++ rest) := by rw [hd]; simp
  have e0 : m + stp (.num rt) = (m + stp rt) + 1 := by simp only [stp]; omega
  rw [e0]
  refine step_num hl hnc hn hc (hi R.1) al st hN hd' fun H1 vs1 st1 f1 hN1 => ?_
  refine IH i nl Lm m _ pl vs1 c0 H1 _ l' rest R.2 W.2 hn hc hnc (f1.all st.r st1.n st1.c al) st1 (by omega) hN1 hL' (dr_add (a := [35]) hd') hi h0 ?_
  refine Go1.then f1 (w := rt.spl) (u := .num .nil) ?_ rfl
  have : p + ([35] ++ l').length = p + [35].length + l'.length := by rw [List.length_append]; omega
  rw [this] at k
  exact k
theorem fk_key {b : Bool} {cs : T} (hk : ∀ k ∈ cs.keys, KeyG b k ∧ k ≠ .str "other") : KeyG b (fk cs) := by
  cases cs with
  | cas k m r => exact (hk k List.mem_cons_self).1
  | nil => exact key_other b
  | text _ _ => exact key_other b
  | shw _ _ => exact key_other b
  | num _ => exact key_other b
  | cho _ _ _ _ => exact key_other b
theorem rdM_cho (hl : tx.length < 10000000) {hd : List V} {cs o rt : T} (IHc : RdC C C2 r dx cl tx Q cs) (IHo : RdM C C2 r dx cl tx Q o) (IH : RdM C C2 r dx cl tx Q rt) : RdM C C2 r dx cl tx Q (.cho hd cs o rt) := by
  intro i nl Lm m p pl vs c0 H t0 l rest R W hn hc hnc al st hc0 hN hL hdr hi h0 k
  obtain ⟨⟨b, nm, off, rfl, hG, nd, hk, hlen, Rc, Ro⟩, Po, Ws, Zs, Rr⟩ := R
  obtain ⟨h, clx, g5, g6, ol, g7, l', hH, hC, hg5, hg6, hO, hg7, rfl, hL'⟩ := hL
  obtain ⟨ga, gb, x, hga, hgb, hLb, hx⟩ := lb_of hO hg5 hg6 hg7 W.2.2.1 hC
  have ex : h ++ clx ++ g5 ++ tl "other" ++ g6 ++ [123] ++ ol ++ [125] ++ g7 ++ [125] ++ l' = h ++ ((clx ++ (g5 ++ (tl "other" ++ (g6 ++ 123 :: (ol ++ 125 :: (g7 ++ [125])))))) ++ l') := by simp
  rw [ex, hx] at hdr k
  have hd1 : (tl tx).drop p = h ++ (ga ++ (keyL (fk cs) ++ (gb ++ 123 :: (x ++ (l' ++ rest))))) := by rw [hdr]; simp
  have e0 : m + stp (.cho (hdV b nm off) cs o rt) = ((m + stp rt) + (stp cs + stp o + 1)) + 1 := by simp only [stp]; omega
  rw [e0]
  refine step_head hl hG (fk_key hk) hH hga hgb st hc0 hd1 fun H1 oA dx2 hdA csA t k1 ho0 hh0 hcs0 ht0 hr1 hcl1 ho1 hh1 hcs1 ht1 => ?_
  have hd2 := dr_add (a := h ++ (ga ++ (keyL (fk cs) ++ (gb ++ [123])))) (s := x ++ (l' ++ rest)) (by rw [hd1]; simp)
  generalize hp1 : p + (h ++ (ga ++ (keyL (fk cs) ++ (gb ++ [123])))).length = p1 at hr1 hd2
  have hpp : p + 2 ≤ p1 := by
    rw [← hp1]
    simp only [List.length_append, List.length_singleton]
    have h1 := List.length_pos_iff.mpr hga.1.1
    omega
  have tLm : t ∉ Lm := fun z => by obtain ⟨xs, e⟩ := al t z; rw [ht0] at e; cases e
  have lst1 : ∀ {a : Addr} {xs : List V}, H a = some (.lst xs) → a ≠ cl → H1 a = some (.lst xs) := fun h z => k1 _ _ h (kind_of st.r h (.inr ⟨_, rfl⟩)) z
  have tup1 : ∀ {a : Addr} {xs : List V}, H a = some (.tup xs) → H1 a = some (.tup xs) := fun h => k1 _ _ h (kind_of st.r h (.inl ⟨_, rfl⟩)) (by rintro rfl; rw [st.c] at h; cases h)
  have al1 : AllL (t :: Lm) H1 := fun a ha => by
    rcases List.mem_cons.mp ha with rfl | ha
    · exact ⟨_, ht1⟩
    · by_cases z : a = cl
      · rw [z]; exact ⟨_, hcl1⟩
      · obtain ⟨xs, e⟩ := al a ha
        exact ⟨xs, lst1 e z⟩
  have sd : Same (dv Lm H) (dv (t :: Lm) H1) := dv_mono fun a u h1 h2 h3 => ⟨fun z => by
      rcases List.mem_cons.mp z with z | z
      · rw [z, ht0] at h2
        cases h2
      · exact h1 z, by
      rcases h3 with ⟨xs, rfl⟩ | ⟨xs, rfl⟩
      · exact tup1 h2
      · exact lst1 h2 (fun z => h1 (by rw [z]; exact hc))⟩
  have hor : oA ≠ r := fun z => by rw [z, st.r] at ho0; cases ho0
  have hst1 : St C r dx tx t cl p1 (if b then pl + 1 else pl) [] (c0 ++ [.ref oA]) H1 := ⟨hr1, ht1, hcl1, Nat.zero_le _⟩
  have hj : (i || b) = true → 0 < (if b then pl + 1 else pl) := fun z => by
    cases b with
    | false =>
      rw [Bool.or_false] at z
      exact hi z
    | true =>
      show 0 < pl + 1
      omega
  have hj0 : 0 ≤ (if b then pl + 1 else pl) := by
    cases b with
    | false => exact h0
    | true =>
      show 0 ≤ pl + 1
      omega
  refine IHc o (i || b) b t nl oA dx2 hdA csA Lm (m + stp rt) p1 _ c0 _ vs H1 .nil t0 [] x (l' ++ rest) IHo Rc W.2.2.1 Ro W.2.2.2.1 Po Ws Zs nd hk (by show 0 + cs.len < 900; omega) ?_ al1 tLm hc hn hnc hst1 (by omega) (lst1 st.n hnc) (by have := st.z; omega) (Nodes.same sd hN) ho1 hh1 hcs1 hor rfl hLb hd2 hj hj0 fun H' u pr hu st' hN' => ?_
  · cases b <;> simp
  · have epl : (if b then (if b then pl + 1 else pl) - 1 else (if b then pl + 1 else pl)) = pl := by
      cases b with
      | false => rfl
      | true =>
        show pl + 1 - 1 = pl
        omega
    rw [epl] at st'
    have new : ∀ {a : Addr} {v : HO}, H a = some v → a ≠ t ∧ a ≠ oA ∧ a ≠ csA := fun h => ⟨(fun z => by rw [z, ht0] at h; cases h), (fun z => by rw [z, ho0] at h; cases h), (fun z => by rw [z, hcs0] at h; cases h)⟩
    have fx : Fx r cl nl H H' := fun a v h z1 z2 z3 => by
      obtain ⟨n1, n2, n3⟩ := new h
      exact pr a v (k1 a v h z1 z2) z1 z2 z3 n1 n2 n3
    have hN2 : Nodes (dv Lm H') (t0.app (.cho (hdV b nm off) cs o .nil)) (vs ++ [.ref u]) := hN'
    refine IH i nl Lm m _ pl _ c0 H' _ l' rest Rr W.2.2.2.2 hn hc hnc (fx.all st.r st'.n st'.c al) st' (by omega) hN2 hL' (dr_add hd2) hi h0 ?_
    refine Go1.then fx (w := rt.spl) (u := .cho (hdV b nm off) cs o .nil) k ?_
    rw [← hp1]
    simp only [List.length_append, List.length_singleton, List.length_cons, List.length_nil]
    omega
theorem rdC_no {t : T} (h : ¬ Wf t true) : RdC C C2 r dx cl tx Q t := fun _ _ _ _ _ _ _ _ _ _ _ _ _ _ _ _ _ _ _ _ _ _ _ _ W => absurd W h
theorem rd_all (hl : tx.length < 10000000) : ∀ t : T, RdM C C2 r dx cl tx Q t ∧ RdC C C2 r dx cl tx Q t
  | .nil => ⟨rdM_nil, rdC_nil hl⟩
  | .text s rt => ⟨rdM_text hl (rd_all hl rt).1, rdC_no fun w => by cases w.1⟩
  | .shw n rt => ⟨rdM_shw hl (rd_all hl rt).1, rdC_no fun w => by cases w.1⟩
  | .num rt => ⟨rdM_num hl (rd_all hl rt).1, rdC_no fun w => by cases w.1⟩
  | .cho hd cs o rt => ⟨rdM_cho hl (rd_all hl cs).2 (rd_all hl o).1 (rd_all hl rt).1, rdC_no fun w => by cases w.1⟩
  | .cas k m rt => ⟨(fun _ _ _ _ _ _ _ _ _ _ _ _ _ W => by cases W.1), rdC_cas hl (rd_all hl m).1 (rd_all hl rt).2⟩
end
end Mw

namespace Mw
open PySem L2
/-! ### a message as plain data: what == and repr look at -/
def vD : V → PyData
  | .str s => .str s
  | .int i => .int i
  | _ => .none
def dat : T → List PyData
  | .nil => []
  | .text s r => .tuple [.str "text", .str s] :: dat r
  | .shw n r => .tuple [.str "show", .str n] :: dat r
  | .num r => .tuple [.str "number"] :: dat r
  | .cho hd cs o r => .tuple (hd.map vD ++ [.list (dat cs), .list (dat o)]) :: dat r
  | .cas k m r => .tuple [vD k, .list (dat m)] :: dat r
/-- small leaves: texts of a few signs, small numbers -/
def VOk : V → Prop
  | .str s => PyData.strOk s = true ∧ (reprText s).length ≤ 12
  | .int i => i = 0 ∨ i = 1 ∨ i = 2 ∨ i = 12
  | _ => False
def SOk : T → Prop
  | .nil => True
  | .text s r => PyData.strOk s = true ∧ SOk r
  | .shw n r => VOk (.str n) ∧ SOk r
  | .num r => SOk r
  | .cho hd cs o r => (∀ v ∈ hd, VOk v) ∧ hd.length ≤ 3 ∧ SOk cs ∧ SOk o ∧ SOk r
  | .cas k m r => VOk k ∧ SOk m ∧ SOk r
theorem dp_flat {K : PySem.W.Frag} {H : Hp} {v : V} (h : VOk v) : Dp K H v (vD v) := by
  cases v with
  | str s => exact .str s
  | int i => exact .int i
  | _ => cases h
theorem dpa_app {K : PySem.W.Frag} {H : Hp} {ys : List V} {es : List PyData} (h' : DpAll K H ys es) : ∀ {xs : List V} {ds : List PyData}, DpAll K H xs ds → DpAll K H (xs ++ ys) (ds ++ es)
  | _, _, .nil => h'
  | _, _, .cons a b => .cons a (dpa_app h' b)
theorem dpa_flat {K : PySem.W.Frag} {H : Hp} : ∀ {hd : List V}, (∀ v ∈ hd, VOk v) → DpAll K H hd (hd.map vD)
  | [], _ => .nil
  | v :: r, h => .cons (dp_flat (h v (by simp))) (dpa_flat fun x hx => h x (List.mem_cons_of_mem _ hx))
theorem Nodes.dp {K : PySem.W.Frag} {H : Hp} : ∀ {t : T} {vs : List V}, Nodes H t vs → SOk t → DpAll K H vs (dat t)
  | .nil, _, h, _ => by rw [show _ = [] from h]; exact .nil
  | .text s r, _, h, w => by
    obtain ⟨p, ws, rfl, hp, hr⟩ := h
    exact .cons (.tup (.inl (.inl hp)) (.cons (.str _) (.cons (.str _) .nil))) (Nodes.dp hr w.2)
  | .shw n r, _, h, w => by
    obtain ⟨p, ws, rfl, hp, hr⟩ := h
    exact .cons (.tup (.inl (.inl hp)) (.cons (.str _) (.cons (.str _) .nil))) (Nodes.dp hr w.2)
  | .num r, _, h, w => by
    obtain ⟨p, ws, rfl, hp, hr⟩ := h
    exact .cons (.tup (.inl (.inl hp)) (.cons (.str _) .nil)) (Nodes.dp hr w)
  | .cho hd cs o r, _, h, w => by
    obtain ⟨p, ws, ca, cvs, oa, ovs, rfl, hp, hc, hcs, ho, hos, hr⟩ := h
    exact .cons (.tup (.inl (.inl hp)) (dpa_app (.cons (.lst (SqL.of hc) (Nodes.dp hcs w.2.2.1)) (.cons (.lst (SqL.of ho) (Nodes.dp hos w.2.2.2.1)) .nil)) (dpa_flat w.1))) (Nodes.dp hr w.2.2.2.2)
  | .cas k m r, _, h, w => by
    obtain ⟨p, ws, ma, mvs, rfl, hp, hm, hms, hr⟩ := h
    exact .cons (.tup (.inl (.inl hp)) (.cons (dp_flat w.1) (.cons (.lst (SqL.of hm) (Nodes.dp hms w.2.1)) .nil))) (Nodes.dp hr w.2.2)
theorem At.dp {K : PySem.W.Frag} {H : Hp} {a : Addr} {t : T} (h : At H a t) (w : SOk t) : Dp K H (.ref a) (.list (dat t)) := by
  obtain ⟨vs, h1, h2⟩ := h
  exact .lst (SqL.of h1) (h2.dp w)
theorem vd_ok {v : V} (h : VOk v) : (vD v).canLay0 = true ∧ (vD v).showable = true ∧ (vD v).hasDict = false ∧ (vD v).depth = 0 ∧ (vD v).shown.length ≤ 12 := by
  cases v with
  | str s =>
    exact ⟨h.1, rfl, rfl, rfl, h.2⟩
  | int i =>
    have hi : ∀ i : Int, i = 0 ∨ i = 1 ∨ i = 2 ∨ i = 12 → (PyData.int i).showable = true ∧ (PyData.int i).shown.length ≤ 12 := by
      rintro i (rfl | rfl | rfl | rfl) <;> exact ⟨by decide +kernel, by decide +kernel⟩
    exact ⟨rfl, (hi i h).1, rfl, rfl, (hi i h).2⟩
  | _ => cases h
theorem hd_ok : ∀ {hd : List V}, (∀ v ∈ hd, VOk v) → PyData.canLayAll0 (hd.map vD) = true ∧ PyData.showableAll (hd.map vD) = true ∧ PyData.hasDictAll (hd.map vD) = false ∧ PyData.depthAll (hd.map vD) = 0
  | [], _ => ⟨rfl, rfl, rfl, rfl⟩
  | v :: r, h => by
    obtain ⟨a1, a2, a3, a4, _⟩ := vd_ok (h v (by simp))
    obtain ⟨b1, b2, b3, b4⟩ := hd_ok (hd := r) fun x hx => h x (List.mem_cons_of_mem _ hx)
    refine ⟨?_, ?_, ?_, ?_⟩
    · simp only [List.map_cons, PyData.canLayAll0, a1, b1, Bool.and_self]
    · simp only [List.map_cons, PyData.showableAll, a2, b2, Bool.and_self]
    · simp only [List.map_cons, PyData.hasDictAll, a3, b3, Bool.or_self]
    · simp only [List.map_cons, PyData.depthAll, a4, b4, Nat.max_self]
theorem cl_app : ∀ (xs ys : List PyData), PyData.canLayAll0 (xs ++ ys) = (PyData.canLayAll0 xs && PyData.canLayAll0 ys)
  | [], _ => rfl
  | x :: xs, ys => by simp only [List.cons_append, PyData.canLayAll0, cl_app xs ys, Bool.and_assoc]
theorem sh_app : ∀ (xs ys : List PyData), PyData.showableAll (xs ++ ys) = (PyData.showableAll xs && PyData.showableAll ys)
  | [], _ => rfl
  | x :: xs, ys => by simp only [List.cons_append, PyData.showableAll, sh_app xs ys, Bool.and_assoc]
theorem hs_app : ∀ (xs ys : List PyData), PyData.hasDictAll (xs ++ ys) = (PyData.hasDictAll xs || PyData.hasDictAll ys)
  | [], _ => rfl
  | x :: xs, ys => by simp only [List.cons_append, PyData.hasDictAll, hs_app xs ys, Bool.or_assoc]
theorem dp_app : ∀ (xs ys : List PyData), PyData.depthAll (xs ++ ys) = max (PyData.depthAll xs) (PyData.depthAll ys)
  | [], _ => by simp [PyData.depthAll]
  | x :: xs, ys => by simp only [List.cons_append, PyData.depthAll, dp_app xs ys, Nat.max_assoc]
theorem sa_app : ∀ (xs ys : List PyData), PyData.shownAll (xs ++ ys) = PyData.shownAll xs ++ PyData.shownAll ys
  | [], _ => rfl
  | x :: xs, ys => by simp only [List.cons_append, PyData.shownAll, sa_app xs ys]
theorem dat_ok : ∀ {t : T}, SOk t → PyData.canLayAll0 (dat t) = true ∧ PyData.showableAll (dat t) = true ∧ PyData.hasDictAll (dat t) = false
  | .nil, _ => ⟨rfl, rfl, rfl⟩
  | .text s r, w => by
    obtain ⟨a1, a2, a3⟩ := dat_ok w.2
    have h : PyData.strOk ("text" : Str) = true := by decide +kernel
    refine ⟨?_, ?_, ?_⟩
    · simp only [dat, PyData.canLayAll0, PyData.canLay0, h, w.1, a1, Bool.and_self]
    · simp only [dat, PyData.showableAll, PyData.showable, a2, Bool.and_self]
    · simp only [dat, PyData.hasDictAll, PyData.hasDict, a3, Bool.or_self]
  | .shw n r, w => by
    obtain ⟨a1, a2, a3⟩ := dat_ok w.2
    have h : PyData.strOk ("show" : Str) = true := by decide +kernel
    have h2 : PyData.strOk n = true := w.1.1
    refine ⟨?_, ?_, ?_⟩
    · simp only [dat, PyData.canLayAll0, PyData.canLay0, h, h2, a1, Bool.and_self]
    · simp only [dat, PyData.showableAll, PyData.showable, a2, Bool.and_self]
    · simp only [dat, PyData.hasDictAll, PyData.hasDict, a3, Bool.or_self]
  | .num r, w => by
    obtain ⟨a1, a2, a3⟩ := dat_ok (t := r) w
    have h : PyData.strOk ("number" : Str) = true := by decide +kernel
    refine ⟨?_, ?_, ?_⟩
    · simp only [dat, PyData.canLayAll0, PyData.canLay0, h, a1, Bool.and_self]
    · simp only [dat, PyData.showableAll, PyData.showable, a2, Bool.and_self]
    · simp only [dat, PyData.hasDictAll, PyData.hasDict, a3, Bool.or_self]
  | .cho hd cs o r, w => by
    obtain ⟨a1, a2, a3⟩ := dat_ok w.2.2.2.2
    obtain ⟨b1, b2, b3⟩ := dat_ok w.2.2.1
    obtain ⟨c1, c2, c3⟩ := dat_ok w.2.2.2.1
    obtain ⟨d1, d2, d3, _⟩ := hd_ok w.1
    refine ⟨?_, ?_, ?_⟩
    · simp only [dat, PyData.canLayAll0, PyData.canLay0, cl_app, a1, b1, c1, d1, Bool.and_self]
    · simp only [dat, PyData.showableAll, PyData.showable, sh_app, a2, b2, c2, d2, Bool.and_self]
    · simp only [dat, PyData.hasDictAll, PyData.hasDict, hs_app, a3, b3, c3, d3, Bool.or_self]
  | .cas k m r, w => by
    obtain ⟨a1, a2, a3⟩ := dat_ok w.2.2
    obtain ⟨b1, b2, b3⟩ := dat_ok w.2.1
    obtain ⟨d1, d2, d3, _⟩ := vd_ok w.1
    refine ⟨?_, ?_, ?_⟩
    · simp only [dat, PyData.canLayAll0, PyData.canLay0, a1, b1, d1, Bool.and_self]
    · simp only [dat, PyData.showableAll, PyData.showable, a2, b2, d2, Bool.and_self]
    · simp only [dat, PyData.hasDictAll, PyData.hasDict, a3, b3, d3, Bool.or_self]
theorem dat_depth : ∀ {t : T} {c : Bool}, Wf t c → SOk t → PyData.depthAll (dat t) ≤ 4 * t.dep + (if c then 3 else 1)
  | .nil, c, _, _ => Nat.zero_le _
  | .text s r, c, w, s' => by
    have hc := w.1
    subst hc
    have h := dat_depth w.2 s'.2
    simp only [dat, PyData.depthAll, PyData.depth, T.dep, Bool.false_eq_true, if_false] at h ⊢
    omega
  | .shw n r, c, w, s' => by
    have hc := w.1
    subst hc
    have h := dat_depth w.2 s'.2
    simp only [dat, PyData.depthAll, PyData.depth, T.dep, Bool.false_eq_true, if_false] at h ⊢
    omega
  | .num r, c, w, s' => by
    have hc := w.1
    subst hc
    have h := dat_depth w.2 (show SOk r from s')
    simp only [dat, PyData.depthAll, PyData.depth, T.dep, Bool.false_eq_true, if_false] at h ⊢
    omega
  | .cho hd cs o r, c, w, s' => by
    have hc := w.1
    subst hc
    have h1 := dat_depth w.2.2.1 s'.2.2.1
    have h2 := dat_depth w.2.2.2.1 s'.2.2.2.1
    have h3 := dat_depth w.2.2.2.2 s'.2.2.2.2
    obtain ⟨_, _, _, h4⟩ := hd_ok s'.1
    simp only [dat, PyData.depthAll, PyData.depth, T.dep, dp_app, h4]
    simp only [if_true, Bool.false_eq_true, if_false] at h1 h2 h3 ⊢
    omega
  | .cas k m r, c, w, s' => by
    have h1 := dat_depth w.2.2.1 s'.2.1
    have h3 := dat_depth w.2.2.2 s'.2.2
    obtain ⟨_, _, _, h4, _⟩ := vd_ok s'.1
    have hc := w.1
    subst hc
    simp only [dat, PyData.depthAll, PyData.depth, T.dep, h4]
    simp only [if_true, Bool.false_eq_true, if_false] at h1 h3 ⊢
    omega
instance (v : V) : Decidable (VOk v) := by
  unfold VOk
  split <;> infer_instance
theorem menu_ok {s : Str} (h : s ∈ menu) : PyData.strOk s = true ∧ s ≠ ("" : Str) := by
  have a : ∀ s ∈ menu, PyData.strOk s = true ∧ s ≠ ("" : Str) := by decide +kernel
  exact a s h
theorem keys_ok : (∀ v ∈ skeys, VOk v ∧ KeyW v) ∧ ∀ v ∈ pkeys, VOk v ∧ KeyW v := by
  have a : (∀ v ∈ skeys, VOk v) ∧ ∀ v ∈ pkeys, VOk v := by decide +kernel
  refine ⟨fun v h => ⟨a.1 v h, ?_⟩, fun v h => ⟨a.2 v h, ?_⟩⟩
  · obtain ⟨s, _, rfl⟩ := List.mem_map.mp h
    exact .inl ⟨s, rfl⟩
  · rcases List.mem_append.mp h with h | h
    · obtain ⟨i, _, rfl⟩ := List.mem_map.mp h
      exact .inr ⟨i, rfl⟩
    · obtain ⟨s, _, rfl⟩ := List.mem_map.mp h
      exact .inl ⟨s, rfl⟩
theorem hdok_all {hd ks : List V} {i j : Bool} (h : HdOk hd i j ks) : HdW hd ∧ (∀ v ∈ hd, VOk v) ∧ hd.length ≤ 3 ∧ ∀ v ∈ ks, VOk v ∧ KeyW v := by
  cases h with
  | @sel n _ _ hn hk =>
    refine ⟨.inl ⟨n, rfl⟩, ?_, by simp, fun v h => keys_ok.1 v (hk.subset h)⟩
    have a : ∀ n : Str, n ∈ (["w", "kind"] : List Str) → ∀ v ∈ [V.str "select", V.str n], VOk v := by decide +kernel
    exact a n (by simpa using hn)
  | @plu n off _ _ hn ho hk =>
    refine ⟨.inr ⟨n, off, rfl⟩, ?_, by simp, fun v h => keys_ok.2 v ?_⟩
    · have a : ∀ n : Str, n ∈ (["n", "count"] : List Str) → ∀ v ∈ [V.str "plural", V.str n], VOk v := by decide +kernel
      intro v hv
      simp only [List.mem_cons, List.not_mem_nil, or_false] at hv
      rcases hv with rfl | rfl | rfl
      · exact a n (by simpa using hn) _ (by simp)
      · exact a n (by simpa using hn) _ (by simp)
      · rcases ho with rfl | rfl | rfl <;> decide +kernel
    · rcases hk with hk | hk
      · exact hk.subset h
      · exact List.mem_reverse.mp (hk.subset h)
theorem Gd.all : ∀ {t : T} {c : Bool} {d : Nat} {i : Bool}, Gd t c d i → (c = true → ∀ v ∈ t.keys, VOk v ∧ KeyW v) → Wf t c ∧ SOk t ∧ t.dep ≤ d
  | .nil, _, _, _, _, _ => ⟨trivial, trivial, Nat.zero_le _⟩
  | .text s r, c, d, i, h, _ => by
    obtain ⟨h1, h2, h3⟩ := Gd.all h.2.2.2 fun e => by rw [h.1] at e; cases e
    exact ⟨⟨h.1, h1⟩, ⟨(menu_ok h.2.1).1, h2⟩, h3⟩
  | .shw n r, c, d, i, h, _ => by
    obtain ⟨h1, h2, h3⟩ := Gd.all h.2.2 fun e => by rw [h.1] at e; cases e
    have a : ∀ n ∈ names4, VOk (.str n) := by decide +kernel
    exact ⟨⟨h.1, h1⟩, ⟨a n h.2.1, h2⟩, h3⟩
  | .num r, c, d, i, h, _ => by
    obtain ⟨h1, h2, h3⟩ := Gd.all h.2.2 fun e => by rw [h.1] at e; cases e
    exact ⟨⟨h.1, h1⟩, h2, h3⟩
  | .cho hd cs o r, c, d, i, h, _ => by
    obtain ⟨e, j, rfl, hh, g1, g2⟩ := h.2.1
    obtain ⟨a1, a2, a3, a4⟩ := hdok_all hh
    obtain ⟨h1, h2, h3⟩ := Gd.all h.2.2 fun e => by rw [h.1] at e; cases e
    obtain ⟨b1, b2, b3⟩ := Gd.all g1 fun _ => a4
    obtain ⟨c1, c2, c3⟩ := Gd.all g2 fun e => by cases e
    refine ⟨⟨h.1, a1, b1, c1, h1⟩, ⟨a2, a3, b2, c2, h2⟩, ?_⟩
    simp only [T.dep]
    omega
  | .cas k m r, c, d, i, h, hk => by
    have hk' := hk h.1
    obtain ⟨h1, h2, h3⟩ := Gd.all h.2.2 fun _ v hv => hk' v (by simp [T.keys, hv])
    obtain ⟨b1, b2, b3⟩ := Gd.all h.2.1 fun e => by cases e
    have hkk := hk' k (by simp [T.keys])
    refine ⟨⟨h.1, hkk.2, b1, h1⟩, ⟨hkk.1, b2, h2⟩, ?_⟩
    simp only [T.dep]
    omega
/-- the builder's messages are in plain form -/
theorem shaped_of {t : T} (hs : SOk t) (hw : Wf t false) (hd : t.dep ≤ 10) : SeqAt.shaped (.list (dat t)) = true := by
  have h4 := dat_depth hw hs
  simp only [Bool.false_eq_true, if_false] at h4
  unfold SeqAt.shaped
  rw [Bool.and_eq_true]
  refine ⟨(dat_ok hs).1, decide_eq_true ?_⟩
  show PyData.depthAll (dat t) + 1 ≤ 64
  omega
end Mw

namespace Mw
open PySem L2
/-! ### the law's messages can be read -/
theorem menu_rd : ∀ s ∈ menu, (tl s).all (fun c => decide (c = 10 ∨ (32 ≤ c ∧ c ≤ 126))) = true ∧ tl s ≠ [] := by decide +kernel
theorem names_rd : ∀ n ∈ names4, tl n ≠ [] ∧ (tl n).length ≤ 8 ∧ (tl n).all (fun c => decide (c ∈ tl lettersS)) = true := by decide +kernel
theorem nam_of {n : Str} (h : tl n ≠ [] ∧ (tl n).length ≤ 8 ∧ (tl n).all (fun c => decide (c ∈ tl lettersS)) = true) : Nam (tl n) := ⟨h.1, h.2.1, fun c hc => of_decide_eq_true (List.all_eq_true.mp h.2.2 c hc)⟩
theorem hn_rd : ∀ n ∈ (["w", "kind", "n", "count"] : List Str), tl n ≠ [] ∧ (tl n).length ≤ 8 ∧ (tl n).all (fun c => decide (c ∈ tl lettersS)) = true := by decide +kernel
theorem words_rd : ∀ n ∈ words3, (tl n ≠ [] ∧ (tl n).length ≤ 8 ∧ (tl n).all (fun c => decide (c ∈ tl lettersS)) = true) ∧ n ≠ "other" := by decide +kernel
theorem cats_rd : ∀ n ∈ cats5, (tl n ≠ [] ∧ (tl n).length ≤ 8 ∧ (tl n).all (fun c => decide (c ∈ tl lettersS)) = true) ∧ n ≠ "other" := by decide +kernel
theorem skeys_rd {k : V} (h : k ∈ skeys) : KeyG false k ∧ k ≠ .str "other" := by
  obtain ⟨n, hn, rfl⟩ := List.mem_map.mp h
  obtain ⟨h1, h2⟩ := words_rd n hn
  exact ⟨.inl ⟨n, rfl, nam_of h1, fun z => by cases z⟩, fun z => by injection z with z; exact h2 z⟩
theorem pkeys_rd {k : V} (h : k ∈ pkeys) : KeyG true k ∧ k ≠ .str "other" := by
  rcases List.mem_append.mp h with h | h
  · obtain ⟨n, hn, rfl⟩ := List.mem_map.mp h
    exact ⟨.inr ⟨rfl, n, hn, rfl⟩, fun z => by cases z⟩
  · obtain ⟨n, hn, rfl⟩ := List.mem_map.mp h
    obtain ⟨h1, h2⟩ := cats_rd n hn
    exact ⟨.inl ⟨n, rfl, nam_of h1, fun _ => .inr h⟩, fun z => by injection z with z; exact h2 z⟩
theorem nd_keys : skeys.Nodup ∧ pkeys.Nodup ∧ pkeys.reverse.Nodup := by
  refine ⟨?_, ?_, ?_⟩
  · unfold skeys words3
    decide +kernel
  · unfold pkeys nums4 cats5
    decide +kernel
  · unfold pkeys nums4 cats5
    decide +kernel
theorem hdok_rd {hd ks : List V} {i j : Bool} (h : HdOk hd i j ks) : ∃ b nm off, hd = hdV b nm off ∧ HdG b nm off ∧ ks.Nodup ∧ (∀ k ∈ ks, KeyG b k ∧ k ≠ .str "other") ∧ ks.length ≤ 9 ∧ j = (i || b) := by
  cases h with
  | sel hn hk =>
    rename_i n
    refine ⟨false, n, 0, rfl, ⟨nam_of (hn_rd n (by rcases hn with rfl | rfl <;> decide)), fun z => by cases z⟩, hk.nodup nd_keys.1, fun k h => skeys_rd (hk.subset h), ?_, by simp⟩
    have := hk.length_le
    simp [skeys, words3] at this
    omega
  | plu hn ho hk =>
    rename_i n off
    refine ⟨true, n, off, rfl, ⟨nam_of (hn_rd n (by rcases hn with rfl | rfl <;> decide)), fun _ => ho⟩, ?_, ?_, ?_, by simp⟩
    · rcases hk with hk | hk
      · exact hk.nodup nd_keys.2.1
      · exact hk.nodup nd_keys.2.2
    · rcases hk with hk | hk
      · exact fun k h => pkeys_rd (hk.subset h)
      · exact fun k h => pkeys_rd (List.mem_reverse.mp (hk.subset h))
    · rcases hk with hk | hk
      · have := hk.length_le
        simpa [pkeys, nums4, cats5] using this
      · have := hk.length_le
        simpa [pkeys, nums4, cats5] using this
theorem wf_sgn (r : T) : ∀ cs : List Nat, Wf r false → Wf (sgn cs r) false
  | [], h => h
  | c :: cs, h => ⟨rfl, wf_sgn r cs h⟩
theorem wf_spl : ∀ {t : T} {c : Bool}, Wf t c → Wf t.spl c
  | .nil, _, h => h
  | .text s r, c, h => by
    have hc := h.1
    subst hc
    exact wf_sgn _ _ (wf_spl h.2)
  | .shw n r, _, h => ⟨h.1, wf_spl h.2⟩
  | .num r, _, h => ⟨h.1, wf_spl h.2⟩
  | .cho hd cs o r, _, h => ⟨h.1, h.2.1, h.2.2.1, h.2.2.2.1, wf_spl h.2.2.2.2⟩
  | .cas k m r, _, h => ⟨h.1, h.2.1, h.2.2.1, wf_spl h.2.2.2⟩
theorem sgn_sz (r : T) : ∀ cs : List Nat, (sgn cs r).sz = 2 * cs.length + r.sz
  | [] => by simp [sgn]
  | c :: cs => by
    show 1 + (⟨#[c]⟩ : Str).length + (sgn cs r).sz = _
    rw [sgn_sz r cs]
    have : (⟨#[c]⟩ : Str).length = 1 := rfl
    simp only [List.length_cons]
    omega
theorem spl_sz : ∀ t : T, t.spl.sz ≤ 2 * t.sz
  | .nil => Nat.le_refl _
  | .text s r => by
    have := spl_sz r
    show (sgn (tl s) r.spl).sz ≤ 2 * (1 + s.length + r.sz)
    rw [sgn_sz, len_tl']
    omega
  | .shw n r => by have := spl_sz r; show 1 + r.spl.sz ≤ 2 * (1 + r.sz); omega
  | .num r => by have := spl_sz r; show 1 + r.spl.sz ≤ 2 * (1 + r.sz); omega
  | .cho hd cs o r => by have := spl_sz r; show 1 + cs.sz + o.sz + r.spl.sz ≤ 2 * (1 + cs.sz + o.sz + r.sz); omega
  | .cas k m r => by have := spl_sz r; show 1 + m.sz + r.spl.sz ≤ 2 * (1 + m.sz + r.sz); omega
theorem Gd.len {t : T} : ∀ {d : Nat} {i : Bool}, Gd t true d i → t.len = t.keys.length := by
  induction t with
  | nil => exact fun _ => rfl
  | text _ _ _ => exact fun h => by cases h.1
  | shw _ _ _ => exact fun h => by cases h.1
  | num _ _ => exact fun h => by cases h.1
  | cho _ _ _ _ _ _ _ => exact fun h => by cases h.1
  | cas k m r _ ih => exact fun h => congrArg (· + 1) (ih h.2.2)
theorem Gd.pl : ∀ {t : T} {c : Bool} {d : Nat} {i : Bool}, Gd t c d i → Pl t
  | .nil, _, _, _, _ => trivial
  | .text s r, _, _, _, h => ⟨(menu_rd s h.2.1).2, h.2.2.1, Gd.pl h.2.2.2⟩
  | .shw n r, _, _, _, h => Gd.pl (t := r) h.2.2
  | .num r, _, _, _, h => Gd.pl (t := r) h.2.2
  | .cho hd cs o r, _, _, _, h => Gd.pl (t := r) h.2.2
  | .cas k m r, _, _, _, h => Gd.pl (t := r) h.2.2
theorem Gd.rg : ∀ {t : T} {c : Bool} {d : Nat} {i : Bool}, Gd t c d i → Wf t c → t.sz < 40000 → Rg t i
  | .nil, _, _, _, _, _, _ => trivial
  | .text s r, c, d, i, h, w, z => by
    refine ⟨fun q hq => (show q = 10 ∨ (32 ≤ q ∧ q ≤ 126) from of_decide_eq_true (List.all_eq_true.mp (menu_rd s h.2.1).1 q hq)), Gd.rg h.2.2.2 (c := c) w.2 (by simp only [T.sz] at z; omega)⟩
  | .shw n r, c, d, i, h, w, z => ⟨nam_of (names_rd n h.2.1), Gd.rg h.2.2 (c := c) w.2 (by simp only [T.sz] at z; omega)⟩
  | .num r, c, d, i, h, w, z => ⟨h.2.1, Gd.rg h.2.2 (c := c) w.2 (by simp only [T.sz] at z; omega)⟩
  | .cho hd cs o r, c, d, i, h, w, z => by
    obtain ⟨h0, ⟨e, j, _, hh, hc, ho⟩, hr⟩ := h
    obtain ⟨b, nm, off, h1, h2, h3, h4, h5, rfl⟩ := hdok_rd hh
    simp only [T.sz] at z
    have z2 := spl_sz o
    exact ⟨⟨b, nm, off, h1, h2, h3, h4, by rw [Gd.len hc]; omega, Gd.rg hc w.2.2.1 (by omega), Gd.rg ho w.2.2.2.1 (by omega)⟩, Gd.pl ho, wf_spl w.2.2.2.1, by omega, Gd.rg hr (c := c) w.2.2.2.2 (by omega)⟩
  | .cas k m r, c, d, i, h, w, z => by
    simp only [T.sz] at z
    have z2 := spl_sz m
    exact ⟨Gd.pl h.2.1, wf_spl w.2.2.1, by omega, Gd.rg h.2.1 w.2.2.1 (by omega), Gd.rg h.2.2 (c := c) w.2.2.2 (by omega)⟩
section
variable {P : Program} {w : World} {K : PySem.W.Frag} {mg : Str → Option Value} {base : Heap} {C C2 : Addr}
/-- the notation of a message is read as this message -/
def spPt : Sp := fun vs H Q _ => ∃ (tx : Str) (t : T), vs = [.str tx] ∧ tx.length < 10000000 ∧ Ln t (tl tx) ∧ Rg t false ∧ Wf t false ∧ Pl t ∧ t.sz < 40000 ∧ ∀ l H', Same H H' → At H' l t → Q (.ref l) H'
theorem pm_pt {f : Addr} {fd : FuncData} (G : FnOk P w K mg base CX0 9 f fd ["text"] (spPm C C2)) : ∀ {vs : List V} {H : Hp} {Q : VK} {E : XK}, spPt vs H Q E → spPm C C2 vs H Q E := by
  rintro vs H Q E ⟨tx, t, rfl, hl, hL, R, W, Pt, hz, q⟩
  have hlen : tx.length = (tl tx).length := len_tl' tx
  refine ⟨tx, rfl, hl, fun r dx nl cl H1 s1 hr0 hn0 hc0 hr hn hc hnc => ⟨1 + stp t, ?_⟩⟩
  have al : AllL [nl, cl] H1 := fun b hb => by
    simp only [List.mem_cons, List.not_mem_nil, or_false] at hb
    rcases hb with rfl | rfl
    · exact ⟨_, hn⟩
    · exact ⟨_, hc⟩
  have zs := spl_sz t
  refine (rd_all (C := C) (C2 := C2) (r := r) (dx := dx) (cl := cl) (tx := tx) (Q := Q) hl t).1 false nl [nl, cl] 1 0 0 [] [] H1 .nil (tl tx) [] R W (by simp) (by simp) hnc al ⟨hr, hn, hc, Nat.le_refl _⟩ (Nat.le_refl _) rfl hL (by simp) (fun z => by cases z) (Int.le_refl _) fun H2 vs2 st f2 hN => ?_
  obtain ⟨w1, w2, w3⟩ := own_data (Lo := [cl]) st (t := t.spl) hN
  have hR2 := st.r
  rw [Nat.zero_add, ← hlen] at hR2
  refine .inl ⟨nl, cl, 0, _, t.spl, hR2, st.c, w1, w3, wf_spl W, by omega, fun l H' ws hl0 s' hws hNm => ?_⟩
  rw [jt_spl t Pt] at hNm
  have s2 : Same H H2 := fun a u h => f2 a u (s1 a u h) (ne_of_none h hr0) (ne_of_none h hc0) (ne_of_none h hn0)
  exact q l H' (s2.trans s') ⟨ws, hws, Nodes.same (mix_out (w1.trans s')) hNm⟩
end
end Mw

namespace Mw
open PySem L2
theorem names_len : ∀ n ∈ (["w", "kind", "n", "count", "who"] : List Str), n.length ≤ 20 := by decide +kernel
theorem keys_sm : (∀ k ∈ words3 ++ cats5, k.length ≤ 20) ∧ ∀ i ∈ nums4, 0 ≤ i ∧ i ≤ 999 := by decide +kernel
theorem skey_sm {k : V} (h : k ∈ skeys ∨ k ∈ pkeys) : KeyS k := by
  rcases h with h | h
  · obtain ⟨n, hn, rfl⟩ := List.mem_map.mp h
    exact .inl ⟨n, rfl, keys_sm.1 n (List.mem_append_left _ hn)⟩
  · rcases List.mem_append.mp h with h | h
    · obtain ⟨n, hn, rfl⟩ := List.mem_map.mp h
      exact .inr ⟨n, rfl, keys_sm.2 n hn⟩
    · obtain ⟨n, hn, rfl⟩ := List.mem_map.mp h
      exact .inl ⟨n, rfl, keys_sm.1 n (List.mem_append_right _ hn)⟩
theorem hdok_sm {hd ks : List V} {i j : Bool} (h : HdOk hd i j ks) : HdS hd ∧ ∀ k ∈ ks, KeyS k := by
  cases h with
  | sel hn hk =>
    rename_i n
    exact ⟨.inl ⟨n, rfl, names_len n (by rcases hn with rfl | rfl <;> decide)⟩, fun k h => skey_sm (.inl (hk.subset h))⟩
  | plu hn ho hk =>
    rename_i n off
    refine ⟨.inr ⟨n, off, rfl, names_len n (by rcases hn with rfl | rfl <;> decide), by omega, by omega⟩, ?_⟩
    rcases hk with hk | hk
    · exact fun k h => skey_sm (.inr (hk.subset h))
    · exact fun k h => skey_sm (.inr (List.mem_reverse.mp (hk.subset h)))
theorem Gd.sm : ∀ {t : T} {c : Bool} {d : Nat} {i : Bool}, Gd t c d i → (c = true → ∀ k ∈ t.keys, KeyS k) → Sm t
  | .nil, _, _, _, _, _ => trivial
  | .text s r, c, _, _, h, _ => ⟨by have := menu_len h.2.1; omega, Gd.sm h.2.2.2 fun e => by rw [h.1] at e; cases e⟩
  | .shw n r, c, _, _, h, _ => ⟨names_len n (by have := h.2.1; unfold names4 at this; simp only [List.mem_cons, List.not_mem_nil, or_false] at this ⊢; rcases this with z | z | z | z <;> simp [z]), Gd.sm h.2.2 fun e => by rw [h.1] at e; cases e⟩
  | .num r, c, _, _, h, _ => Gd.sm (t := r) h.2.2 fun e => by rw [h.1] at e; cases e
  | .cho hd cs o r, c, _, _, h, _ => by
    obtain ⟨h0, ⟨e, j, _, hh, hc, ho⟩, hr⟩ := h
    obtain ⟨h1, h2⟩ := hdok_sm hh
    exact ⟨h1, Gd.sm hc fun _ => h2, Gd.sm ho (fun e => by cases e), Gd.sm hr fun e => by rw [h0] at e; cases e⟩
  | .cas k m r, c, _, _, h, hk => ⟨hk h.1 k List.mem_cons_self, Gd.sm h.2.1 (fun e => by cases e), Gd.sm h.2.2 fun e q hq => hk e q (List.mem_cons_of_mem _ hq)⟩
section
variable {P : Program} {w : World} {K : PySem.W.Frag} {mg : Str → Option Value} {base : Heap} {C C2 : Addr}
abbrev sLaw : Stmt := top 40
abbrev nLaw : List Str := ["script", "box", "message", "text", "other", "told"]
theorem scLaw : FnScope nLaw ["script"] (defScope sLaw) := ⟨rfl, rfl, rfl, by decide +kernel, rfl, by decide +kernel, by decide +kernel⟩
def spLaw (K : PySem.W.Frag) : Sp := fun vs H Q _ => ∃ (a : Addr) (ns : List Int), vs = [.ref a] ∧ SqL K H a (ns.map V.int) ∧ ∀ H', Q (.bl true) H'
theorem ok_law {f fG fM fW fF fP : Addr} {fd fdG fdM fdW fdF fdP : FuncData} (F : Fun K "law" "law" sLaw f fd)
    (gG : FnOk P w K mg base CX0 2 fG fdG ["script", "first", "last"] (spDigits K)) (bG : Binds K fdG ["script", "first", "last"] []) (kG : PySem.W.keepIn K (.ref fG) = true) (mG : mg "_law_digits" = some (.ref fG))
    (gM : FnOk P w K mg base CX0 7 fM fdM ["box", "depth", "inside"] (spMsg 2)) (bM : Binds K fdM ["box", "depth", "inside"] []) (kM : PySem.W.keepIn K (.ref fM) = true) (mM : mg "_law_message" = some (.ref fM))
    (gW : FnOk P w K mg base CX0 5 fW fdW ["box", "message", "loose"] (spWr 3)) (bW : Binds K fdW ["box", "message", "loose"] []) (kW : PySem.W.keepIn K (.ref fW) = true) (mW : mg "_law_written" = some (.ref fW))
    (gF : FnOk P w K mg base CX0 4 fF fdF ["message"] spFm) (bF : Binds K fdF ["message"] []) (kF : PySem.W.keepIn K (.ref fF) = true) (mF : mg "format_message" = some (.ref fF))
    (gP : FnOk P w K mg base CX0 9 fP fdP ["text"] (spPm C C2)) (bP : Binds K fdP ["text"] []) (kP : PySem.W.keepIn K (.ref fP) = true) (mP : mg "parse_message" = some (.ref fP))
    (mi : mg "isinstance" = none) (mL : mg "list" = none) :
    FnOk P w K mg base CX0 10 f fd ["script"] (spLaw K) := by
  refine F.ok scLaw (fun vs H Q E h => ?_) (fun cdv A outer s H vs Q E hr h => ?_)
  · obtain ⟨a, ns, rfl, _⟩ := h
    rfl
  obtain ⟨a, ns, rfl, hS, q⟩ := h
  have nd := scLaw.nd
  refine ⟨_, pss_cons (ps_set (i := 1) nd rfl (.inl rfl) (pe_lst (pa_cons (pe_call gG (hr.mono (by decide)) rfl mG kG bG .nil pass0 (pa_cons (pv 0) (pa_cons pe_int (pa_cons pe_int pa_nil)))) (pa_cons pe_int pa_nil))))
    (pss_cons (ps_set (i := 2) nd rfl (.inl rfl) (pe_call gM (hr.mono (by decide)) rfl mM kM bM .nil pass0 (pa_cons (pv 1) (pa_cons pe_int (pa_cons pe_bl pa_nil)))))
    (pss_cons (ps_set (i := 3) nd rfl (.inl rfl) (pe_call gW (hr.mono (by decide)) rfl mW kW bW .nil pass0 (pa_cons (pv 1) (pa_cons (pv 2) (pa_cons pe_bl pa_nil)))))
    (pss_cons (ps_if (pt_cmpR op_ne (pe_call gF (hr.mono (by decide)) rfl mF kF bF .nil pass0 (pa_cons (pv 2) pa_nil)) (pv 3) (nomark _)) (pss_one (ps_ret pe_bl)) pss_nil)
    (pss_cons (ps_for PassesOwn.never rfl (pi_list (pe_lst (pa_cons (pv 3) (pa_cons (pe_call gW (hr.mono (by decide)) rfl mW kW bW .nil pass0 (pa_cons (pv 1) (pa_cons (pv 2) (pa_cons pe_bl pa_nil)))) pa_nil)))) (pg_name (i := 4) nd rfl (.inl rfl))
      (pss_cons (ps_set (i := 5) nd rfl (.inl rfl) (pe_call gP (hr.mono (by decide)) rfl mP kP bP .nil pass0 (pa_cons (pv 4) pa_nil)))
      (pss_one (ps_if (PW.pt (pw_or (pt_not (pt_val (pe_callB call_isi (by rfl) mi (by decide +kernel) (pa_cons (pv 5) (pa_cons (pe_bltn (v := .ty "list") (by rfl) mL (by decide +kernel) rfl) pa_nil)))))
          (pw_or1 (pt_cmpR (op_neD hr.units) (pv 5) (pv 2) (nomark _)))))
        (pss_one (ps_ret pe_bl)) pss_nil))))
    (pss_one (ps_ret (pe_and (pe_cmpR (op_eqD hr.units) (pe_call gP (hr.mono (by decide)) rfl mP kP bP .nil pass0 (pa_cons pe_str pa_nil)) (pe_lst pa_nil) (nomark _))
      (pe_one (pe_cmpR op_eq (pe_call gF (hr.mono (by decide)) rfl mF kF bF .nil pass0 (pa_cons (pe_lst pa_nil) pa_nil)) pe_str (nomark _)))))))))), ?_⟩
  refine ⟨_, rfl, a, ns, rfl, hS, fun d H1 ds hd0 s1 hd => ⟨by show 2 ≤ sizeLine; decide, fun B hB => ?_⟩⟩
  have ndB : d ≠ B := ne_of_none hd hB
  generalize hH0 : upd H1 B (.lst [.ref d, .int 0]) = H0
  have hB0 : H0 B = some (.lst [.ref d, .int 0]) := by rw [← hH0]; exact upd_same
  have hbox : Box H0 B d := ⟨ds, 0, hB0, by rw [← hH0, upd_ne ndB]; exact hd, Int.le_refl 0⟩
  refine ⟨_, rfl, B, d, false, rfl, hbox, fun r H3 t g3 hb3 hat hgd hsz hlen => ?_⟩
  obtain ⟨tw, tok, td⟩ := Gd.all hgd fun e => by cases e
  have tz : t.sz < 30000 := Nat.lt_of_le_of_lt hsz (by decide)
  have tsm : Sm t := Gd.sm hgd fun e => by cases e
  have trg := Gd.rg hgd tw (by omega)
  have tpl := Gd.pl hgd
  have frB : ∀ H', fr H0 H' B = none := fun H' => fr_old hB0
  -- the text
  refine ⟨_, rfl, _, rfl, B, d, r, false, fr H0 H3, t, rfl, hb3, fr_out, frB _, hat, tw, tsm, by omega, tz, fun l H4 hl g4 hb4 => ?_⟩
  have hat4 := hat.same (fr_go hB0 g4)
  have el : l = t.wr := (hl.2 rfl).trans ((lw_wr tw).1 rfl)
  refine ⟨_, rfl, r, t, rfl, hat4.same fr_out, tw, tsm, by omega, fun H5 s5 => ?_⟩
  refine ⟨_, rfl, rfl, _, rfl, ?_⟩
  rw [show (!decide (V.str (mkS t.wr) = V.str (mkS l))) = false by rw [el]; simp]
  have hb5 := hb4.same s5
  have hat5 := hat4.same (fr_same s5)
  -- both texts
  refine ⟨_, rfl, _, rfl, _, rfl, B, d, r, true, fr H0 H5, t, rfl, hb5, fr_out, frB _, hat5, tw, tsm, by omega, tz, fun l2 H6 hl2 g6 hb6 => ?_⟩
  refine ⟨by show 2 ≤ sizeLine; decide, fun L hL => ⟨L, rfl, ⟨_, SqL.of upd_same⟩, ?_⟩⟩
  have hat6 : At (upd H6 L (.lst [.str (mkS l), .str (mkS l2)])) r t := ((hat5.same (fr_go hB0 g6)).same fr_out).same (same_new hL _)
  generalize hH7 : upd H6 L (.lst [.str (mkS l), .str (mkS l2)]) = H7 at hat6 ⊢
  have hL7 : H7 L = some (.lst [.str (mkS l), .str (mkS l2)]) := by rw [← hH7]; exact upd_same
  refine for_list (xs := [.str (mkS l), .str (mkS l2)]) (fun i σ H' => Same H7 H' ∧ ∃ o4 o5, σ = [some (.ref a), some (.ref B), some (.ref r), some (.str (mkS l)), o4, o5]) ⟨Same.refl _, ⟨_, _, rfl⟩⟩ (fun i σ H' _ ⟨s', _⟩ => SqL.of (s' _ _ hL7)) ?_ ?_
  · rintro i x σ H8 hx ⟨s8, o4, o5, rfl⟩
    have hxx : ∃ l3, x = .str (mkS l3) ∧ Ln t l3 := by
      have := List.mem_of_getElem? hx
      simp only [List.mem_cons, List.not_mem_nil, or_false] at this
      rcases this with rfl | rfl
      · exact ⟨l, rfl, hl.1⟩
      · exact ⟨l2, rfl, hl2.1⟩
    obtain ⟨l3, rfl, hl3⟩ := hxx
    have l3l := ln_len tsm hl3
    refine ⟨_, rfl, ?_⟩
    refine pm_pt (E := E0) gP ⟨mkS l3, t, rfl, by rw [mk_len]; omega, hl3, trg, tw, tpl, by omega, fun p H9 s9 hp => ?_⟩
    obtain ⟨pvs, hp1, hp2⟩ := id hp
    refine ⟨_, rfl, .ref p, .ty "list", .type "list", .type "list", true, rfl, .ty "list", .base (.lst hp1), kit_ty (by decide +kernel), true, rfl, ?_⟩
    have sh := shaped_of tok tw (by omega)
    refine ⟨_, rfl, _, rfl, _, _, hp.dp tok, ((hat6.same s8).same s9).dp tok, sh, sh, ?_⟩
    rw [SeqAt.eqv_refl _ (SeqAt.canLay_of_shaped sh)]
    exact ⟨_, rfl, s8.trans s9, _, _, rfl⟩
  · rintro σ H8 ⟨s8, o4, o5, rfl⟩
    refine pm_pt (E := E0) gP ⟨"", .nil, rfl, by decide +kernel, rfl, trivial, trivial, trivial, by decide, fun p H9 s9 hp => ⟨Nat.zero_le _, fun e he => ?_⟩⟩
    have hp' := (hp.same (same_new he (.lst [])))
    obtain ⟨pvs, hp1, hp2⟩ := hp'
    have hpv : pvs = [] := hp2
    subst hpv
    refine ⟨.list [], .list [], .lst (SqL.of hp1) .nil, .lst (SqL.of upd_same) .nil, rfl, rfl, true, rfl, ?_⟩
    refine ⟨Nat.zero_le _, fun e2 he2 => ?_⟩
    refine ⟨e2, .nil, rfl, ⟨[], upd_same, rfl⟩, trivial, trivial, by decide, fun HA sA => ⟨rfl, ?_⟩⟩
    exact q HA
end
end Mw

namespace Mw
open PySem L2
def keyS : Value → Option Str
  | .str s _ => some s
  | _ => none
theorem keys_are {es : Array DictEntry} {ks : List Str} (h : es.toList.map (fun e => keyS e.key) = ks.map some) : Kg.KeysAre es ks := by
  have hl : es.size = ks.length := by
    have := congrArg List.length h
    simpa using this
  refine ⟨hl, fun i k hk => ?_⟩
  have hi : i < es.size := by rw [hl]; exact (List.getElem?_eq_some_iff.mp hk).1
  have h1 := congrArg (·[i]?) h
  simp only [List.getElem?_map, hk, Array.getElem?_toList, Array.getElem?_eq_getElem hi, Option.map_some] at h1
  refine ⟨hi, ?_⟩
  injection h1 with h1
  cases e : es[i].key with
  | str s t =>
    rw [e] at h1
    injection h1 with h1
    exact ⟨t, by rw [h1]⟩
  | _ => rw [e] at h1; cases h1
theorem ea_mk {K : PySem.W.Frag} {mg : Str → Option Value} {w : World} {ed : Addr} {es : Array DictEntry} {n : Nat} (g : mg "ESCAPES" = some (.ref ed)) (d : KDict K w ed es n) (hk : Kg.KeysAre es escKs) (A2 : ∀ c ∈ escN, ∃ u, PySem.W.nsIn K ed ⟨#[c]⟩ = some (some u) ∧ RelV (.str (mkS (escC c))) u) : EA K mg w ed es n := by
  refine ⟨g, d, fun c => ?_⟩
  by_cases hc : c ∈ escN
  · obtain ⟨u, h1, h2⟩ := A2 c hc
    exact ⟨some u, h1, fun v e => by injection e with e; rw [← e]; exact h2, fun e => by cases e⟩
  · refine ⟨none, ?_, (fun u e => by cases e), fun _ => ?_⟩
    · have hm : ∀ e ∈ es.toList, ∃ s t, e.key = .str s t ∧ s ∈ escKs := by
        intro e he
        obtain ⟨i, hi, rfl⟩ := List.getElem_of_mem he
        have hi' : i < es.size := by simpa using hi
        have hks : escKs[i]? = some (escKs[i]'(by rw [← hk.1]; exact hi')) := List.getElem?_eq_getElem _
        obtain ⟨hi2, t, ht⟩ := hk.2 i _ hks
        exact ⟨_, t, by simpa using ht, List.getElem_mem _⟩
      unfold PySem.W.nsIn
      rw [d.at_]
      have f1 : es.toList.find? (·.key.isStr ⟨#[c]⟩) = none := by
        rw [List.find?_eq_none]
        intro e he
        obtain ⟨s, t, e1, e2⟩ := hm e he
        rw [e1]
        intro z
        have z' : s = (⟨#[c]⟩ : Str) := eq_of_beq z
        rw [z'] at e2
        obtain ⟨c', h1, h2⟩ := List.mem_map.mp e2
        injection h2 with h2
        injection h2 with h2
        injection h2 with h2
        rw [← h2] at hc
        exact hc h1
      have f2 : es.toList.any (·.refKey) = false := by
        rw [List.any_eq_false]
        intro e he
        obtain ⟨s, t, e1, _⟩ := hm e he
        unfold DictEntry.refKey
        rw [e1]
        exact Bool.false_ne_true
      simp only [f1, f2]
      rfl
    · rcases esc_cases c with ⟨h, _⟩ | ⟨_, _, _, _, h⟩
      · exact absurd h hc
      · exact h
end Mw

namespace Mw
open PySem L2
theorem both {P : Program} {w : World} {K : PySem.W.Frag} {mg : Str → Option Value} {base : Heap} {fD fT fS fP fM : Addr} {fdD fdT fdS fdP fdM : FuncData}
    (GD : FnOk P w K mg base CX0 1 fD fdD ["box", "many"] spDraw) (bD : Binds K fdD ["box", "many"] []) (kD : PySem.W.keepIn K (.ref fD) = true) (mD : mg "_law_draw" = some (.ref fD))
    (GT : FnOk P w K mg base CX0 2 fT fdT ["box"] spString) (bT : Binds K fdT ["box"] []) (kT : PySem.W.keepIn K (.ref fT) = true) (mT : mg "_law_string" = some (.ref fT))
    (FS : Fun K "_law_select" "_law_select" sSel fS fdS) (bS : Binds K fdS ["box", "depth", "inside"] []) (mS : mg "_law_select" = some (.ref fS))
    (FP : Fun K "_law_plural" "_law_plural" sPlu fP fdP) (bP : Binds K fdP ["box", "depth"] []) (mP : mg "_law_plural" = some (.ref fP))
    (FM : Fun K "_law_message" "_law_message" sMsg fM fdM) (bM : Binds K fdM ["box", "depth", "inside"] []) (mM : mg "_law_message" = some (.ref fM)) (mr : mg "range" = none) (ml : mg "len" = none) :
    ∀ d, FnOk P w K mg base CX0 (2 * d + 3) fM fdM ["box", "depth", "inside"] (spMsg d)
  | 0 => ok_msg (k := 2) (Nat.le_refl _) FM GD bD kD mD GT bT kT mT ((none_left fun vs H Q E ⟨_, _, _, e, h, _⟩ => by omega).mono (Nat.zero_le _)) bS FS.kp mS ((none_left fun vs H Q E ⟨_, _, e, h, _⟩ => by omega).mono (Nat.zero_le _)) bP FP.kp mP mr ml
  | d + 1 => by
    have ih := both GD bD kD mD GT bT kT mT FS bS mS FP bP mP FM bM mM mr ml d
    have hs := ok_sel (k := 2 * d + 3) (by omega) FS GD bD kD mD ih bM FM.kp mM
    have hp := ok_plu (k := 2 * d + 3) (by omega) FP GD bD kD mD ih bM FM.kp mM
    exact ok_msg (k := 2 * d + 4) (by omega) FM GD bD kD mD GT bT kT mT hs bS FS.kp mS hp bP FP.kp mP mr ml
set_option maxHeartbeats 0 in
theorem all_mk {l : PySem.W.OpenLaw} {w : World} {K : PySem.W.Frag} {h : Heap} {mg : Str → Option Value} {fa f1 f2 f3 f4 f5 f6 f7 f8 f9 f10 f11 f12 f13 f14 f15 f16 f17 f18 f19 f20 f21 f22 f23 C C2 ed ct m1 m2 m3 m4 m5 m6 m7 m8 m9 m10 m11 m12 m13 m14 m15 m16 m17 m18 m19 : Addr} (X : K.In h) (G : h.Ns mainGlobals mg) (hfa : mg "law" = some (.ref fa))
    {od1 an1 od2 an2 od3 an3 od4 an4 od5 an5 od6 an6 od7 an7 od8 an8 od9 an9 od10 an10 od11 an11 od12 an12 od13 an13 od14 an14 od15 an15 od16 an16 od17 an17 od18 an18 od19 an19 od20 an20 od21 an21 od22 an22 od23 an23 mod1 man1 mod2 man2 mod3 man3 mod4 man4 mod5 man5 mod6 man6 mod7 man7 mod8 man8 mod9 man9 mod10 man10 mod11 man11 mod12 man12 mod13 man13 mod14 man14 mod15 man15 mod16 man16 mod17 man17 mod18 man18 mod19 man19 odT : Option Addr} {sl1 sl2 sl3 sl4 sl5 sl6 sl7 sl8 sl9 sl10 sl11 sl12 sl13 sl14 sl15 sl16 sl17 sl18 sl19 sl20 sl21 sl22 sl23 msl1 msl2 msl3 msl4 msl5 msl6 msl7 msl8 msl9 msl10 msl11 msl12 msl13 msl14 msl15 msl16 msl17 msl18 msl19 slT : Array (Option Value)} {oc1 kV1 dc1 pm1 cd1 ct1 oc2 kV2 dc2 pm2 cd2 ct2 oc3 kV3 dc3 pm3 cd3 ct3 oc4 kV4 dc4 pm4 cd4 ct4 oc5 kV5 dc5 pm5 cd5 ct5 oc6 kV6 dc6 pm6 cd6 ct6 oc7 kV7 dc7 pm7 cd7 ct7 oc8 kV8 dc8 pm8 cd8 ct8 oc9 kV9 dc9 pm9 cd9 ct9 oc10 kV10 dc10 pm10 cd10 ct10 oc11 kV11 dc11 pm11 cd11 ct11 oc12 kV12 dc12 pm12 cd12 ct12 oc13 kV13 dc13 pm13 cd13 ct13 oc14 kV14 dc14 pm14 cd14 ct14 oc15 kV15 dc15 pm15 cd15 ct15 oc16 kV16 dc16 pm16 cd16 ct16 oc17 kV17 dc17 pm17 cd17 ct17 oc18 kV18 dc18 pm18 cd18 ct18 oc19 kV19 dc19 pm19 cd19 ct19 oc20 kV20 dc20 pm20 cd20 ct20 oc21 kV21 dc21 pm21 cd21 ct21 oc22 kV22 dc22 pm22 cd22 ct22 oc23 kV23 dc23 pm23 cd23 ct23 moc1 mkV1 mdc1 mpm1 mcd1 mct1 moc2 mkV2 mdc2 mpm2 mcd2 mct2 moc3 mkV3 mdc3 mpm3 mcd3 mct3 moc4 mkV4 mdc4 mpm4 mcd4 mct4 moc5 mkV5 mdc5 mpm5 mcd5 mct5 moc6 mkV6 mdc6 mpm6 mcd6 mct6 moc7 mkV7 mdc7 mpm7 mcd7 mct7 moc8 mkV8 mdc8 mpm8 mcd8 mct8 moc9 mkV9 mdc9 mpm9 mcd9 mct9 moc10 mkV10 mdc10 mpm10 mcd10 mct10 moc11 mkV11 mdc11 mpm11 mcd11 mct11 moc12 mkV12 mdc12 mpm12 mcd12 mct12 moc13 mkV13 mdc13 mpm13 mcd13 mct13 moc14 mkV14 mdc14 mpm14 mcd14 mct14 moc15 mkV15 mdc15 mpm15 mcd15 mct15 moc16 mkV16 mdc16 mpm16 mcd16 mct16 moc17 mkV17 mdc17 mpm17 mcd17 mct17 moc18 mkV18 mdc18 mpm18 mcd18 mct18 moc19 mkV19 mdc19 mpm19 mcd19 mct19 : Value}
    {t1 t2 t3 t4 t5 t6 t7 u1 u2 u3 u4 : Tok} {es : Array DictEntry} {en nT : Nat} {itT : Array Value}
    (a1 : PySem.W.nsIn K mainGlobals "cases_of" = some (some (.ref f1))) (l1 : K.lookup f1 = some ⟨oc1, od1, .func (PySem.W.fnOf "cases_of" "cases_of" (defArgs sCases) (defBody sCases) (defScope sCases) .none kV1 dc1 pm1 an1 cd1 ct1), sl1⟩) (c1 : PySem.W.codeIn K cd1 "cases_of" = true) (k1 : PySem.W.keepIn K (.ref f1) = true)
    (a2 : PySem.W.nsIn K mainGlobals "other_of" = some (some (.ref f2))) (l2 : K.lookup f2 = some ⟨oc2, od2, .func (PySem.W.fnOf "other_of" "other_of" (defArgs sOther) (defBody sOther) (defScope sOther) .none kV2 dc2 pm2 an2 cd2 ct2), sl2⟩) (c2 : PySem.W.codeIn K cd2 "other_of" = true) (k2 : PySem.W.keepIn K (.ref f2) = true)
    (a3 : PySem.W.nsIn K mainGlobals "text_nodes" = some (some (.ref f3))) (l3 : K.lookup f3 = some ⟨oc3, od3, .func (PySem.W.fnOf "text_nodes" "text_nodes" (defArgs sTn) (defBody sTn) (defScope sTn) .none kV3 dc3 pm3 an3 cd3 ct3), sl3⟩) (c3 : PySem.W.codeIn K cd3 "text_nodes" = true) (k3 : PySem.W.keepIn K (.ref f3) = true)
    (a4 : PySem.W.nsIn K mainGlobals "joined_texts" = some (some (.ref f4))) (l4 : K.lookup f4 = some ⟨oc4, od4, .func (PySem.W.fnOf "joined_texts" "joined_texts" (defArgs sJt) (defBody sJt) (defScope sJt) .none kV4 dc4 pm4 an4 cd4 ct4), sl4⟩) (c4 : PySem.W.codeIn K cd4 "joined_texts" = true) (k4 : PySem.W.keepIn K (.ref f4) = true)
    (a5 : PySem.W.nsIn K mainGlobals "escaped" = some (some (.ref f5))) (l5 : K.lookup f5 = some ⟨oc5, od5, .func (PySem.W.fnOf "escaped" "escaped" (defArgs sEsc) (defBody sEsc) (defScope sEsc) .none kV5 dc5 pm5 an5 cd5 ct5), sl5⟩) (c5 : PySem.W.codeIn K cd5 "escaped" = true) (k5 : PySem.W.keepIn K (.ref f5) = true)
    (a6 : PySem.W.nsIn K mainGlobals "key_notation" = some (some (.ref f6))) (l6 : K.lookup f6 = some ⟨oc6, od6, .func (PySem.W.fnOf "key_notation" "key_notation" (defArgs sKey) (defBody sKey) (defScope sKey) .none kV6 dc6 pm6 an6 cd6 ct6), sl6⟩) (c6 : PySem.W.codeIn K cd6 "key_notation" = true) (k6 : PySem.W.keepIn K (.ref f6) = true)
    (a7 : PySem.W.nsIn K mainGlobals "choice_parts" = some (some (.ref f7))) (l7 : K.lookup f7 = some ⟨oc7, od7, .func (PySem.W.fnOf "choice_parts" "choice_parts" (defArgs sCp) (defBody sCp) (defScope sCp) .none kV7 dc7 pm7 an7 cd7 ct7), sl7⟩) (c7 : PySem.W.codeIn K cd7 "choice_parts" = true) (k7 : PySem.W.keepIn K (.ref f7) = true)
    (a8 : PySem.W.nsIn K mainGlobals "node_parts" = some (some (.ref f8))) (l8 : K.lookup f8 = some ⟨oc8, od8, .func (PySem.W.fnOf "node_parts" "node_parts" (defArgs sNp) (defBody sNp) (defScope sNp) .none kV8 dc8 pm8 an8 cd8 ct8), sl8⟩) (c8 : PySem.W.codeIn K cd8 "node_parts" = true) (k8 : PySem.W.keepIn K (.ref f8) = true)
    (a9 : PySem.W.nsIn K mainGlobals "format_message" = some (some (.ref f9))) (l9 : K.lookup f9 = some ⟨oc9, od9, .func (PySem.W.fnOf "format_message" "format_message" (defArgs sFm) (defBody sFm) (defScope sFm) .none kV9 dc9 pm9 an9 cd9 ct9), sl9⟩) (c9 : PySem.W.codeIn K cd9 "format_message" = true) (k9 : PySem.W.keepIn K (.ref f9) = true)
    (a10 : PySem.W.nsIn K mainGlobals "is_text_sign" = some (some (.ref f10))) (l10 : K.lookup f10 = some ⟨oc10, od10, .func (PySem.W.fnOf "is_text_sign" "is_text_sign" (defArgs sIt) (defBody sIt) (defScope sIt) .none kV10 dc10 pm10 an10 cd10 ct10), sl10⟩) (c10 : PySem.W.codeIn K cd10 "is_text_sign" = true) (k10 : PySem.W.keepIn K (.ref f10) = true)
    (a11 : PySem.W.nsIn K mainGlobals "parse_message" = some (some (.ref f11))) (l11 : K.lookup f11 = some ⟨oc11, od11, .func (PySem.W.fnOf "parse_message" "parse_message" (defArgs sPm) (defBody sPm) (defScope sPm) .none kV11 dc11 pm11 an11 cd11 ct11), sl11⟩) (c11 : PySem.W.codeIn K cd11 "parse_message" = true) (k11 : PySem.W.keepIn K (.ref f11) = true)
    (a12 : PySem.W.nsIn K mainGlobals "_law_cell" = some (some (.ref f12))) (l12 : K.lookup f12 = some ⟨oc12, od12, .func (PySem.W.fnOf "_law_cell" "_law_cell" (defArgs sCell) (defBody sCell) (defScope sCell) .none kV12 dc12 pm12 an12 cd12 ct12), sl12⟩) (c12 : PySem.W.codeIn K cd12 "_law_cell" = true) (k12 : PySem.W.keepIn K (.ref f12) = true)
    (a13 : PySem.W.nsIn K mainGlobals "_law_digits" = some (some (.ref f13))) (l13 : K.lookup f13 = some ⟨oc13, od13, .func (PySem.W.fnOf "_law_digits" "_law_digits" (defArgs sDigits) (defBody sDigits) (defScope sDigits) .none kV13 dc13 pm13 an13 cd13 ct13), sl13⟩) (c13 : PySem.W.codeIn K cd13 "_law_digits" = true) (k13 : PySem.W.keepIn K (.ref f13) = true)
    (a14 : PySem.W.nsIn K mainGlobals "_law_draw" = some (some (.ref f14))) (l14 : K.lookup f14 = some ⟨oc14, od14, .func (PySem.W.fnOf "_law_draw" "_law_draw" (defArgs sDraw) (defBody sDraw) (defScope sDraw) .none kV14 dc14 pm14 an14 cd14 ct14), sl14⟩) (c14 : PySem.W.codeIn K cd14 "_law_draw" = true) (k14 : PySem.W.keepIn K (.ref f14) = true)
    (a15 : PySem.W.nsIn K mainGlobals "_law_string" = some (some (.ref f15))) (l15 : K.lookup f15 = some ⟨oc15, od15, .func (PySem.W.fnOf "_law_string" "_law_string" (defArgs sString) (defBody sString) (defScope sString) .none kV15 dc15 pm15 an15 cd15 ct15), sl15⟩) (c15 : PySem.W.codeIn K cd15 "_law_string" = true) (k15 : PySem.W.keepIn K (.ref f15) = true)
    (a16 : PySem.W.nsIn K mainGlobals "_law_select" = some (some (.ref f16))) (l16 : K.lookup f16 = some ⟨oc16, od16, .func (PySem.W.fnOf "_law_select" "_law_select" (defArgs sSel) (defBody sSel) (defScope sSel) .none kV16 dc16 pm16 an16 cd16 ct16), sl16⟩) (c16 : PySem.W.codeIn K cd16 "_law_select" = true) (k16 : PySem.W.keepIn K (.ref f16) = true)
    (a17 : PySem.W.nsIn K mainGlobals "_law_plural" = some (some (.ref f17))) (l17 : K.lookup f17 = some ⟨oc17, od17, .func (PySem.W.fnOf "_law_plural" "_law_plural" (defArgs sPlu) (defBody sPlu) (defScope sPlu) .none kV17 dc17 pm17 an17 cd17 ct17), sl17⟩) (c17 : PySem.W.codeIn K cd17 "_law_plural" = true) (k17 : PySem.W.keepIn K (.ref f17) = true)
    (a18 : PySem.W.nsIn K mainGlobals "_law_message" = some (some (.ref f18))) (l18 : K.lookup f18 = some ⟨oc18, od18, .func (PySem.W.fnOf "_law_message" "_law_message" (defArgs sMsg) (defBody sMsg) (defScope sMsg) .none kV18 dc18 pm18 an18 cd18 ct18), sl18⟩) (c18 : PySem.W.codeIn K cd18 "_law_message" = true) (k18 : PySem.W.keepIn K (.ref f18) = true)
    (a19 : PySem.W.nsIn K mainGlobals "_law_escaped" = some (some (.ref f19))) (l19 : K.lookup f19 = some ⟨oc19, od19, .func (PySem.W.fnOf "_law_escaped" "_law_escaped" (defArgs sLe) (defBody sLe) (defScope sLe) .none kV19 dc19 pm19 an19 cd19 ct19), sl19⟩) (c19 : PySem.W.codeIn K cd19 "_law_escaped" = true) (k19 : PySem.W.keepIn K (.ref f19) = true)
    (a20 : PySem.W.nsIn K mainGlobals "_law_gap" = some (some (.ref f20))) (l20 : K.lookup f20 = some ⟨oc20, od20, .func (PySem.W.fnOf "_law_gap" "_law_gap" (defArgs sGap) (defBody sGap) (defScope sGap) .none kV20 dc20 pm20 an20 cd20 ct20), sl20⟩) (c20 : PySem.W.codeIn K cd20 "_law_gap" = true) (k20 : PySem.W.keepIn K (.ref f20) = true)
    (a21 : PySem.W.nsIn K mainGlobals "_law_one_gap" = some (some (.ref f21))) (l21 : K.lookup f21 = some ⟨oc21, od21, .func (PySem.W.fnOf "_law_one_gap" "_law_one_gap" (defArgs sOne) (defBody sOne) (defScope sOne) .none kV21 dc21 pm21 an21 cd21 ct21), sl21⟩) (c21 : PySem.W.codeIn K cd21 "_law_one_gap" = true) (k21 : PySem.W.keepIn K (.ref f21) = true)
    (a22 : PySem.W.nsIn K mainGlobals "_law_written" = some (some (.ref f22))) (l22 : K.lookup f22 = some ⟨oc22, od22, .func (PySem.W.fnOf "_law_written" "_law_written" (defArgs sWr) (defBody sWr) (defScope sWr) .none kV22 dc22 pm22 an22 cd22 ct22), sl22⟩) (c22 : PySem.W.codeIn K cd22 "_law_written" = true) (k22 : PySem.W.keepIn K (.ref f22) = true)
    (a23 : PySem.W.nsIn K mainGlobals "law" = some (some (.ref f23))) (l23 : K.lookup f23 = some ⟨oc23, od23, .func (PySem.W.fnOf "law" "law" (defArgs sLaw) (defBody sLaw) (defScope sLaw) .none kV23 dc23 pm23 an23 cd23 ct23), sl23⟩) (c23 : PySem.W.codeIn K cd23 "law" = true) (k23 : PySem.W.keepIn K (.ref f23) = true)
    (aC : PySem.W.nsIn K mainGlobals "Reader" = some (some (.ref C)))
    (mk1C : PySem.W.makesIn K C = true)
    (mk4C : PySem.W.keepIn K (.ref C) = true)
    (pgC : PySem.W.plainGet K C Str.empty = true)
    (hdC : PySem.W.hasDictIn K C = true)
    (poC : PySem.W.plainOver K C = true)
    (saC : PySem.W.findIn K (.ref C) "__setattr__" = some (some (.builtin "object.__setattr__")))
    (aC2 : PySem.W.nsIn K mainGlobals "OpenChoice" = some (some (.ref C2)))
    (mk1C2 : PySem.W.makesIn K C2 = true)
    (mk4C2 : PySem.W.keepIn K (.ref C2) = true)
    (pgC2 : PySem.W.plainGet K C2 Str.empty = true)
    (hdC2 : PySem.W.hasDictIn K C2 = true)
    (poC2 : PySem.W.plainOver K C2 = true)
    (saC2 : PySem.W.findIn K (.ref C2) "__setattr__" = some (some (.builtin "object.__setattr__")))
    (nC_text : PySem.W.findIn K (.ref C) "text" = some none)
    (nC_place : PySem.W.findIn K (.ref C) "place" = some none)
    (nC_nodes : PySem.W.findIn K (.ref C) "nodes" = some none)
    (nC_choices : PySem.W.findIn K (.ref C) "choices" = some none)
    (nC_plurals : PySem.W.findIn K (.ref C) "plurals" = some none)
    (nO_head : PySem.W.findIn K (.ref C2) "head" = some none)
    (nO_around : PySem.W.findIn K (.ref C2) "around" = some none)
    (nO_cases : PySem.W.findIn K (.ref C2) "cases" = some none)
    (nO_key : PySem.W.findIn K (.ref C2) "key" = some none)
    (ma1 : PySem.W.findIn K (.ref C2) "__init__" = some (some (.ref m1)))
    (ml1 : K.lookup m1 = some ⟨moc1, mod1, .func (PySem.W.fnOf "__init__" "OpenChoice.__init__" (defArgs sOi) (defBody sOi) (defScope sOi) .none mkV1 mdc1 mpm1 man1 mcd1 mct1), msl1⟩)
    (mc1 : PySem.W.codeIn K mcd1 "OpenChoice.__init__" = true)
    (mf1 : PySem.W.isFn K (.ref m1) = true)
    (mk1 : PySem.W.keepIn K (.ref m1) = true)
    (ma2 : PySem.W.findIn K (.ref C2) "closed" = some (some (.ref m2)))
    (ml2 : K.lookup m2 = some ⟨moc2, mod2, .func (PySem.W.fnOf "closed" "OpenChoice.closed" (defArgs sOd) (defBody sOd) (defScope sOd) .none mkV2 mdc2 mpm2 man2 mcd2 mct2), msl2⟩)
    (mc2 : PySem.W.codeIn K mcd2 "OpenChoice.closed" = true)
    (mf2 : PySem.W.isFn K (.ref m2) = true)
    (mk2 : PySem.W.keepIn K (.ref m2) = true)
    (ma3 : PySem.W.findIn K (.ref C) "__init__" = some (some (.ref m3)))
    (ml3 : K.lookup m3 = some ⟨moc3, mod3, .func (PySem.W.fnOf "__init__" "Reader.__init__" (defArgs sRi) (defBody sRi) (defScope sRi) .none mkV3 mdc3 mpm3 man3 mcd3 mct3), msl3⟩)
    (mc3 : PySem.W.codeIn K mcd3 "Reader.__init__" = true)
    (mf3 : PySem.W.isFn K (.ref m3) = true)
    (mk3 : PySem.W.keepIn K (.ref m3) = true)
    (ma4 : PySem.W.findIn K (.ref C) "sign_ahead" = some (some (.ref m4)))
    (ml4 : K.lookup m4 = some ⟨moc4, mod4, .func (PySem.W.fnOf "sign_ahead" "Reader.sign_ahead" (defArgs sSg) (defBody sSg) (defScope sSg) .none mkV4 mdc4 mpm4 man4 mcd4 mct4), msl4⟩)
    (mc4 : PySem.W.codeIn K mcd4 "Reader.sign_ahead" = true)
    (mf4 : PySem.W.isFn K (.ref m4) = true)
    (mk4 : PySem.W.keepIn K (.ref m4) = true)
    (ma5 : PySem.W.findIn K (.ref C) "skip_spaces" = some (some (.ref m5)))
    (ml5 : K.lookup m5 = some ⟨moc5, mod5, .func (PySem.W.fnOf "skip_spaces" "Reader.skip_spaces" (defArgs sSk) (defBody sSk) (defScope sSk) .none mkV5 mdc5 mpm5 man5 mcd5 mct5), msl5⟩)
    (mc5 : PySem.W.codeIn K mcd5 "Reader.skip_spaces" = true)
    (mf5 : PySem.W.isFn K (.ref m5) = true)
    (mk5 : PySem.W.keepIn K (.ref m5) = true)
    (ma6 : PySem.W.findIn K (.ref C) "take_sign" = some (some (.ref m6)))
    (ml6 : K.lookup m6 = some ⟨moc6, mod6, .func (PySem.W.fnOf "take_sign" "Reader.take_sign" (defArgs sTs) (defBody sTs) (defScope sTs) .none mkV6 mdc6 mpm6 man6 mcd6 mct6), msl6⟩)
    (mc6 : PySem.W.codeIn K mcd6 "Reader.take_sign" = true)
    (mf6 : PySem.W.isFn K (.ref m6) = true)
    (mk6 : PySem.W.keepIn K (.ref m6) = true)
    (ma7 : PySem.W.findIn K (.ref C) "take_row" = some (some (.ref m7)))
    (ml7 : K.lookup m7 = some ⟨moc7, mod7, .func (PySem.W.fnOf "take_row" "Reader.take_row" (defArgs sTr) (defBody sTr) (defScope sTr) .none mkV7 mdc7 mpm7 man7 mcd7 mct7), msl7⟩)
    (mc7 : PySem.W.codeIn K mcd7 "Reader.take_row" = true)
    (mf7 : PySem.W.isFn K (.ref m7) = true)
    (mk7 : PySem.W.keepIn K (.ref m7) = true)
    (ma8 : PySem.W.findIn K (.ref C) "take_name" = some (some (.ref m8)))
    (ml8 : K.lookup m8 = some ⟨moc8, mod8, .func (PySem.W.fnOf "take_name" "Reader.take_name" (defArgs sNa) (defBody sNa) (defScope sNa) .none mkV8 mdc8 mpm8 man8 mcd8 mct8), msl8⟩)
    (mc8 : PySem.W.codeIn K mcd8 "Reader.take_name" = true)
    (mf8 : PySem.W.isFn K (.ref m8) = true)
    (mk8 : PySem.W.keepIn K (.ref m8) = true)
    (ma9 : PySem.W.findIn K (.ref C) "take_number" = some (some (.ref m9)))
    (ml9 : K.lookup m9 = some ⟨moc9, mod9, .func (PySem.W.fnOf "take_number" "Reader.take_number" (defArgs sTm) (defBody sTm) (defScope sTm) .none mkV9 mdc9 mpm9 man9 mcd9 mct9), msl9⟩)
    (mc9 : PySem.W.codeIn K mcd9 "Reader.take_number" = true)
    (mf9 : PySem.W.isFn K (.ref m9) = true)
    (mk9 : PySem.W.keepIn K (.ref m9) = true)
    (ma10 : PySem.W.findIn K (.ref C) "take_kind" = some (some (.ref m10)))
    (ml10 : K.lookup m10 = some ⟨moc10, mod10, .func (PySem.W.fnOf "take_kind" "Reader.take_kind" (defArgs sTk) (defBody sTk) (defScope sTk) .none mkV10 mdc10 mpm10 man10 mcd10 mct10), msl10⟩)
    (mc10 : PySem.W.codeIn K mcd10 "Reader.take_kind" = true)
    (mf10 : PySem.W.isFn K (.ref m10) = true)
    (mk10 : PySem.W.keepIn K (.ref m10) = true)
    (ma11 : PySem.W.findIn K (.ref C) "take_offset" = some (some (.ref m11)))
    (ml11 : K.lookup m11 = some ⟨moc11, mod11, .func (PySem.W.fnOf "take_offset" "Reader.take_offset" (defArgs sTo) (defBody sTo) (defScope sTo) .none mkV11 mdc11 mpm11 man11 mcd11 mct11), msl11⟩)
    (mc11 : PySem.W.codeIn K mcd11 "Reader.take_offset" = true)
    (mf11 : PySem.W.isFn K (.ref m11) = true)
    (mk11 : PySem.W.keepIn K (.ref m11) = true)
    (ma12 : PySem.W.findIn K (.ref C) "take_plural_key" = some (some (.ref m12)))
    (ml12 : K.lookup m12 = some ⟨moc12, mod12, .func (PySem.W.fnOf "take_plural_key" "Reader.take_plural_key" (defArgs sTq) (defBody sTq) (defScope sTq) .none mkV12 mdc12 mpm12 man12 mcd12 mct12), msl12⟩)
    (mc12 : PySem.W.codeIn K mcd12 "Reader.take_plural_key" = true)
    (mf12 : PySem.W.isFn K (.ref m12) = true)
    (mk12 : PySem.W.keepIn K (.ref m12) = true)
    (ma13 : PySem.W.findIn K (.ref C) "begin_case" = some (some (.ref m13)))
    (ml13 : K.lookup m13 = some ⟨moc13, mod13, .func (PySem.W.fnOf "begin_case" "Reader.begin_case" (defArgs sBc) (defBody sBc) (defScope sBc) .none mkV13 mdc13 mpm13 man13 mcd13 mct13), msl13⟩)
    (mc13 : PySem.W.codeIn K mcd13 "Reader.begin_case" = true)
    (mf13 : PySem.W.isFn K (.ref m13) = true)
    (mk13 : PySem.W.keepIn K (.ref m13) = true)
    (ma14 : PySem.W.findIn K (.ref C) "begin_choice" = some (some (.ref m14)))
    (ml14 : K.lookup m14 = some ⟨moc14, mod14, .func (PySem.W.fnOf "begin_choice" "Reader.begin_choice" (defArgs sBh) (defBody sBh) (defScope sBh) .none mkV14 mdc14 mpm14 man14 mcd14 mct14), msl14⟩)
    (mc14 : PySem.W.codeIn K mcd14 "Reader.begin_choice" = true)
    (mf14 : PySem.W.isFn K (.ref m14) = true)
    (mk14 : PySem.W.keepIn K (.ref m14) = true)
    (ma15 : PySem.W.findIn K (.ref C) "read_argument" = some (some (.ref m15)))
    (ml15 : K.lookup m15 = some ⟨moc15, mod15, .func (PySem.W.fnOf "read_argument" "Reader.read_argument" (defArgs sRa) (defBody sRa) (defScope sRa) .none mkV15 mdc15 mpm15 man15 mcd15 mct15), msl15⟩)
    (mc15 : PySem.W.codeIn K mcd15 "Reader.read_argument" = true)
    (mf15 : PySem.W.isFn K (.ref m15) = true)
    (mk15 : PySem.W.keepIn K (.ref m15) = true)
    (ma16 : PySem.W.findIn K (.ref C) "end_message" = some (some (.ref m16)))
    (ml16 : K.lookup m16 = some ⟨moc16, mod16, .func (PySem.W.fnOf "end_message" "Reader.end_message" (defArgs sEm) (defBody sEm) (defScope sEm) .none mkV16 mdc16 mpm16 man16 mcd16 mct16), msl16⟩)
    (mc16 : PySem.W.codeIn K mcd16 "Reader.end_message" = true)
    (mf16 : PySem.W.isFn K (.ref m16) = true)
    (mk16 : PySem.W.keepIn K (.ref m16) = true)
    (ma17 : PySem.W.findIn K (.ref C) "read_escape" = some (some (.ref m17)))
    (ml17 : K.lookup m17 = some ⟨moc17, mod17, .func (PySem.W.fnOf "read_escape" "Reader.read_escape" (defArgs sRe) (defBody sRe) (defScope sRe) .none mkV17 mdc17 mpm17 man17 mcd17 mct17), msl17⟩)
    (mc17 : PySem.W.codeIn K mcd17 "Reader.read_escape" = true)
    (mf17 : PySem.W.isFn K (.ref m17) = true)
    (mk17 : PySem.W.keepIn K (.ref m17) = true)
    (ma18 : PySem.W.findIn K (.ref C) "read_sign" = some (some (.ref m18)))
    (ml18 : K.lookup m18 = some ⟨moc18, mod18, .func (PySem.W.fnOf "read_sign" "Reader.read_sign" (defArgs sRs) (defBody sRs) (defScope sRs) .none mkV18 mdc18 mpm18 man18 mcd18 mct18), msl18⟩)
    (mc18 : PySem.W.codeIn K mcd18 "Reader.read_sign" = true)
    (mf18 : PySem.W.isFn K (.ref m18) = true)
    (mk18 : PySem.W.keepIn K (.ref m18) = true)
    (ma19 : PySem.W.findIn K (.ref C) "read_next" = some (some (.ref m19)))
    (ml19 : K.lookup m19 = some ⟨moc19, mod19, .func (PySem.W.fnOf "read_next" "Reader.read_next" (defArgs sRn) (defBody sRn) (defScope sRn) .none mkV19 mdc19 mpm19 man19 mcd19 mct19), msl19⟩)
    (mc19 : PySem.W.codeIn K mcd19 "Reader.read_next" = true)
    (mf19 : PySem.W.isFn K (.ref m19) = true)
    (mk19 : PySem.W.keepIn K (.ref m19) = true)
    (k_LETTERS : PySem.W.nsIn K mainGlobals "LETTERS" = some (some (.str lettersS t1)))
    (k_FIGURES : PySem.W.nsIn K mainGlobals "FIGURES" = some (some (.str figuresS t2)))
    (k_SPACES : PySem.W.nsIn K mainGlobals "SPACES" = some (some (.str " \n" t3)))
    (k_OFFSET_MARK : PySem.W.nsIn K mainGlobals "OFFSET_MARK" = some (some (.str "offset:" t4)))
    (k_MOST_LETTERS : PySem.W.nsIn K mainGlobals "MOST_LETTERS" = some (some (.int 8 t5)))
    (k_OFFSET_FIGURES : PySem.W.nsIn K mainGlobals "OFFSET_FIGURES" = some (some (.int 1 t6)))
    (k_KEY_FIGURES : PySem.W.nsIn K mainGlobals "KEY_FIGURES" = some (some (.int 3 t7)))
    (aE : PySem.W.nsIn K mainGlobals "ESCAPES" = some (some (.ref ed)))
    (xE : K.lookup ed = some ⟨.type "dict", none, .dict es en, #[]⟩)
    (litE : PySem.W.KeysLit w.params es.toList)
    (lowE : (ed == sysModules) = false)
    (keysE : es.toList.map (fun e => keyS e.key) = escKs.map some)
    (q1 : PySem.W.nsIn K ed "'" = some (some (.str "''" u1)))
    (q2 : PySem.W.nsIn K ed "{" = some (some (.str "'{'" u2)))
    (q3 : PySem.W.nsIn K ed "}" = some (some (.str "'}'" u3)))
    (q4 : PySem.W.nsIn K ed "#" = some (some (.str "'#'" u4)))
    (aT : PySem.W.nsIn K mainGlobals "CATEGORIES" = some (some (.ref ct)))
    (xT : K.lookup ct = some ⟨.type "tuple", odT, .seq itT nT, slT⟩)
    (szT : itT.size ≤ sizeLine)
    (vT : Vals catV itT.toList)
    (z1 : PySem.W.nsIn K mainGlobals "len" = some none) (z2 : PySem.W.nsIn K mainGlobals "list" = some none) (z3 : PySem.W.nsIn K mainGlobals "range" = some none) (z4 : PySem.W.nsIn K mainGlobals "int" = some none) (z5 : PySem.W.nsIn K mainGlobals "isinstance" = some none) (z6 : PySem.W.nsIn K mainGlobals "str" = some none) :
    ∃ fd : FuncData, (∀ (s : Shared) (v : Value), BindsTo s fd ⟨[v], []⟩ [("script", v)]) ∧ ∀ base : Heap, K.In base → base.Ns mainGlobals mg → FnOk l.prog w K mg base CX0 10 fa fd ["script"] (spLaw K) := by
  have e := hfa.symm.trans (PySem.W.mg_of X G a23)
  cases e
  have F1 := fun_mk (st := sCases) l1 c1 k1
  have b1 := F1.binds (ps := ["node"]) fun _ _ _ _ _ _ us hl => match us, hl with | [_], _ => rfl
  have g1 := PySem.W.mg_of X G a1
  have F2 := fun_mk (st := sOther) l2 c2 k2
  have b2 := F2.binds (ps := ["node"]) fun _ _ _ _ _ _ us hl => match us, hl with | [_], _ => rfl
  have g2 := PySem.W.mg_of X G a2
  have F3 := fun_mk (st := sTn) l3 c3 k3
  have b3 := F3.binds (ps := ["strings"]) fun _ _ _ _ _ _ us hl => match us, hl with | [_], _ => rfl
  have g3 := PySem.W.mg_of X G a3
  have F4 := fun_mk (st := sJt) l4 c4 k4
  have b4 := F4.binds (ps := ["message"]) fun _ _ _ _ _ _ us hl => match us, hl with | [_], _ => rfl
  have g4 := PySem.W.mg_of X G a4
  have F5 := fun_mk (st := sEsc) l5 c5 k5
  have b5 := F5.binds (ps := ["string"]) fun _ _ _ _ _ _ us hl => match us, hl with | [_], _ => rfl
  have g5 := PySem.W.mg_of X G a5
  have F6 := fun_mk (st := sKey) l6 c6 k6
  have b6 := F6.binds (ps := ["key"]) fun _ _ _ _ _ _ us hl => match us, hl with | [_], _ => rfl
  have g6 := PySem.W.mg_of X G a6
  have F7 := fun_mk (st := sCp) l7 c7 k7
  have b7 := F7.binds (ps := ["node"]) fun _ _ _ _ _ _ us hl => match us, hl with | [_], _ => rfl
  have g7 := PySem.W.mg_of X G a7
  have F8 := fun_mk (st := sNp) l8 c8 k8
  have b8 := F8.binds (ps := ["node"]) fun _ _ _ _ _ _ us hl => match us, hl with | [_], _ => rfl
  have g8 := PySem.W.mg_of X G a8
  have F9 := fun_mk (st := sFm) l9 c9 k9
  have b9 := F9.binds (ps := ["message"]) fun _ _ _ _ _ _ us hl => match us, hl with | [_], _ => rfl
  have g9 := PySem.W.mg_of X G a9
  have F10 := fun_mk (st := sIt) l10 c10 k10
  have b10 := F10.binds (ps := ["sign"]) fun _ _ _ _ _ _ us hl => match us, hl with | [_], _ => rfl
  have g10 := PySem.W.mg_of X G a10
  have F11 := fun_mk (st := sPm) l11 c11 k11
  have b11 := F11.binds (ps := ["text"]) fun _ _ _ _ _ _ us hl => match us, hl with | [_], _ => rfl
  have g11 := PySem.W.mg_of X G a11
  have F12 := fun_mk (st := sCell) l12 c12 k12
  have b12 := F12.binds (ps := ["script", "k"]) fun _ _ _ _ _ _ us hl => match us, hl with | [_, _], _ => rfl
  have g12 := PySem.W.mg_of X G a12
  have F13 := fun_mk (st := sDigits) l13 c13 k13
  have b13 := F13.binds (ps := ["script", "first", "last"]) fun _ _ _ _ _ _ us hl => match us, hl with | [_, _, _], _ => rfl
  have g13 := PySem.W.mg_of X G a13
  have F14 := fun_mk (st := sDraw) l14 c14 k14
  have b14 := F14.binds (ps := ["box", "many"]) fun _ _ _ _ _ _ us hl => match us, hl with | [_, _], _ => rfl
  have g14 := PySem.W.mg_of X G a14
  have F15 := fun_mk (st := sString) l15 c15 k15
  have b15 := F15.binds (ps := ["box"]) fun _ _ _ _ _ _ us hl => match us, hl with | [_], _ => rfl
  have g15 := PySem.W.mg_of X G a15
  have F16 := fun_mk (st := sSel) l16 c16 k16
  have b16 := F16.binds (ps := ["box", "depth", "inside"]) fun _ _ _ _ _ _ us hl => match us, hl with | [_, _, _], _ => rfl
  have g16 := PySem.W.mg_of X G a16
  have F17 := fun_mk (st := sPlu) l17 c17 k17
  have b17 := F17.binds (ps := ["box", "depth"]) fun _ _ _ _ _ _ us hl => match us, hl with | [_, _], _ => rfl
  have g17 := PySem.W.mg_of X G a17
  have F18 := fun_mk (st := sMsg) l18 c18 k18
  have b18 := F18.binds (ps := ["box", "depth", "inside"]) fun _ _ _ _ _ _ us hl => match us, hl with | [_, _, _], _ => rfl
  have g18 := PySem.W.mg_of X G a18
  have F19 := fun_mk (st := sLe) l19 c19 k19
  have b19 := F19.binds (ps := ["text"]) fun _ _ _ _ _ _ us hl => match us, hl with | [_], _ => rfl
  have g19 := PySem.W.mg_of X G a19
  have F20 := fun_mk (st := sGap) l20 c20 k20
  have b20 := F20.binds (ps := ["box", "loose"]) fun _ _ _ _ _ _ us hl => match us, hl with | [_, _], _ => rfl
  have g20 := PySem.W.mg_of X G a20
  have F21 := fun_mk (st := sOne) l21 c21 k21
  have b21 := F21.binds (ps := ["box", "loose"]) fun _ _ _ _ _ _ us hl => match us, hl with | [_, _], _ => rfl
  have g21 := PySem.W.mg_of X G a21
  have F22 := fun_mk (st := sWr) l22 c22 k22
  have b22 := F22.binds (ps := ["box", "message", "loose"]) fun _ _ _ _ _ _ us hl => match us, hl with | [_, _, _], _ => rfl
  have g22 := PySem.W.mg_of X G a22
  have F23 := fun_mk (st := sLaw) l23 c23 k23
  have b23 := F23.binds (ps := ["script"]) fun _ _ _ _ _ _ us hl => match us, hl with | [_], _ => rfl
  have g23 := PySem.W.mg_of X G a23
  have FM1 := fun_mk (st := sOi) ml1 mc1 mk1
  have bM1 := FM1.binds (ps := ["self", "head", "around"]) fun _ _ _ _ _ _ us hl => match us, hl with | [_, _, _], _ => rfl
  have M1 : Meth K C2 "__init__" m1 := ⟨ma1, mf1, mk1⟩
  have FM2 := fun_mk (st := sOd) ml2 mc2 mk2
  have bM2 := FM2.binds (ps := ["self", "other"]) fun _ _ _ _ _ _ us hl => match us, hl with | [_, _], _ => rfl
  have M2 : Meth K C2 "closed" m2 := ⟨ma2, mf2, mk2⟩
  have FM3 := fun_mk (st := sRi) ml3 mc3 mk3
  have bM3 := FM3.binds (ps := ["self", "text"]) fun _ _ _ _ _ _ us hl => match us, hl with | [_, _], _ => rfl
  have M3 : Meth K C "__init__" m3 := ⟨ma3, mf3, mk3⟩
  have FM4 := fun_mk (st := sSg) ml4 mc4 mk4
  have bM4 := FM4.binds (ps := ["self"]) fun _ _ _ _ _ _ us hl => match us, hl with | [_], _ => rfl
  have M4 : Meth K C "sign_ahead" m4 := ⟨ma4, mf4, mk4⟩
  have FM5 := fun_mk (st := sSk) ml5 mc5 mk5
  have bM5 := FM5.binds (ps := ["self"]) fun _ _ _ _ _ _ us hl => match us, hl with | [_], _ => rfl
  have M5 : Meth K C "skip_spaces" m5 := ⟨ma5, mf5, mk5⟩
  have FM6 := fun_mk (st := sTs) ml6 mc6 mk6
  have bM6 := FM6.binds (ps := ["self", "sign"]) fun _ _ _ _ _ _ us hl => match us, hl with | [_, _], _ => rfl
  have M6 : Meth K C "take_sign" m6 := ⟨ma6, mf6, mk6⟩
  have FM7 := fun_mk (st := sTr) ml7 mc7 mk7
  have bM7 := FM7.binds (ps := ["self", "signs"]) fun _ _ _ _ _ _ us hl => match us, hl with | [_, _], _ => rfl
  have M7 : Meth K C "take_row" m7 := ⟨ma7, mf7, mk7⟩
  have FM8 := fun_mk (st := sNa) ml8 mc8 mk8
  have bM8 := FM8.binds (ps := ["self"]) fun _ _ _ _ _ _ us hl => match us, hl with | [_], _ => rfl
  have M8 : Meth K C "take_name" m8 := ⟨ma8, mf8, mk8⟩
  have FM9 := fun_mk (st := sTm) ml9 mc9 mk9
  have bM9 := FM9.binds (ps := ["self", "most"]) fun _ _ _ _ _ _ us hl => match us, hl with | [_, _], _ => rfl
  have M9 : Meth K C "take_number" m9 := ⟨ma9, mf9, mk9⟩
  have FM10 := fun_mk (st := sTk) ml10 mc10 mk10
  have bM10 := FM10.binds (ps := ["self"]) fun _ _ _ _ _ _ us hl => match us, hl with | [_], _ => rfl
  have M10 : Meth K C "take_kind" m10 := ⟨ma10, mf10, mk10⟩
  have FM11 := fun_mk (st := sTo) ml11 mc11 mk11
  have bM11 := FM11.binds (ps := ["self"]) fun _ _ _ _ _ _ us hl => match us, hl with | [_], _ => rfl
  have M11 : Meth K C "take_offset" m11 := ⟨ma11, mf11, mk11⟩
  have FM12 := fun_mk (st := sTq) ml12 mc12 mk12
  have bM12 := FM12.binds (ps := ["self"]) fun _ _ _ _ _ _ us hl => match us, hl with | [_], _ => rfl
  have M12 : Meth K C "take_plural_key" m12 := ⟨ma12, mf12, mk12⟩
  have FM13 := fun_mk (st := sBc) ml13 mc13 mk13
  have bM13 := FM13.binds (ps := ["self"]) fun _ _ _ _ _ _ us hl => match us, hl with | [_], _ => rfl
  have M13 : Meth K C "begin_case" m13 := ⟨ma13, mf13, mk13⟩
  have FM14 := fun_mk (st := sBh) ml14 mc14 mk14
  have bM14 := FM14.binds (ps := ["self", "name"]) fun _ _ _ _ _ _ us hl => match us, hl with | [_, _], _ => rfl
  have M14 : Meth K C "begin_choice" m14 := ⟨ma14, mf14, mk14⟩
  have FM15 := fun_mk (st := sRa) ml15 mc15 mk15
  have bM15 := FM15.binds (ps := ["self"]) fun _ _ _ _ _ _ us hl => match us, hl with | [_], _ => rfl
  have M15 : Meth K C "read_argument" m15 := ⟨ma15, mf15, mk15⟩
  have FM16 := fun_mk (st := sEm) ml16 mc16 mk16
  have bM16 := FM16.binds (ps := ["self"]) fun _ _ _ _ _ _ us hl => match us, hl with | [_], _ => rfl
  have M16 : Meth K C "end_message" m16 := ⟨ma16, mf16, mk16⟩
  have FM17 := fun_mk (st := sRe) ml17 mc17 mk17
  have bM17 := FM17.binds (ps := ["self"]) fun _ _ _ _ _ _ us hl => match us, hl with | [_], _ => rfl
  have M17 : Meth K C "read_escape" m17 := ⟨ma17, mf17, mk17⟩
  have FM18 := fun_mk (st := sRs) ml18 mc18 mk18
  have bM18 := FM18.binds (ps := ["self"]) fun _ _ _ _ _ _ us hl => match us, hl with | [_], _ => rfl
  have M18 : Meth K C "read_sign" m18 := ⟨ma18, mf18, mk18⟩
  have FM19 := fun_mk (st := sRn) ml19 mc19 mk19
  have bM19 := FM19.binds (ps := ["self"]) fun _ _ _ _ _ _ us hl => match us, hl with | [_], _ => rfl
  have M19 : Meth K C "read_next" m19 := ⟨ma19, mf19, mk19⟩
  have y1 := PySem.W.mg_none_of X G z1
  have y2 := PySem.W.mg_none_of X G z2
  have y3 := PySem.W.mg_none_of X G z3
  have y4 := PySem.W.mg_none_of X G z4
  have y5 := PySem.W.mg_none_of X G z5
  have y6 := PySem.W.mg_none_of X G z6
  have g_LETTERS := PySem.W.mg_of X G k_LETTERS
  have g_FIGURES := PySem.W.mg_of X G k_FIGURES
  have g_SPACES := PySem.W.mg_of X G k_SPACES
  have g_OFFSET_MARK := PySem.W.mg_of X G k_OFFSET_MARK
  have g_MOST_LETTERS := PySem.W.mg_of X G k_MOST_LETTERS
  have g_OFFSET_FIGURES := PySem.W.mg_of X G k_OFFSET_FIGURES
  have g_KEY_FIGURES := PySem.W.mg_of X G k_KEY_FIGURES
  have gC := PySem.W.mg_of X G aC
  have gC2 := PySem.W.mg_of X G aC2
  have gE := PySem.W.mg_of X G aE
  have gT := PySem.W.mg_of X G aT
  have RR : RC K C := ⟨⟨pgC, hdC, poC, saC⟩, nC_text, nC_place, nC_nodes, nC_choices, nC_plurals⟩
  have OO : OC K C2 := ⟨⟨pgC2, hdC2, poC2, saC2⟩, nO_head, nO_around, nO_cases, nO_key⟩
  have MR : Mk K C m3 := ⟨mk1C, ma3, mf3, mk4C⟩
  have MO : Mk K C2 m1 := ⟨mk1C2, ma1, mf1, mk4C2⟩
  have hk := keys_are keysE
  have A2 : ∀ c ∈ escN, ∃ u, PySem.W.nsIn K ed ⟨#[c]⟩ = some (some u) ∧ RelV (.str (mkS (escC c))) u := by
    intro c hc
    unfold escN at hc
    simp only [List.mem_cons, List.not_mem_nil, or_false] at hc
    rcases hc with rfl | rfl | rfl | rfl
    · exact ⟨_, q1, _, rfl⟩
    · exact ⟨_, q2, _, rfl⟩
    · exact ⟨_, q3, _, rfl⟩
    · exact ⟨_, q4, _, rfl⟩
  have KD : KDict K w ed es en := ⟨xE, litE, lowE⟩
  have EE : EA K mg w ed es en := ea_mk gE KD hk A2
  have kT : ∀ H : Hp, SqT K H ct catV := fun H => .inr ⟨_, itT, nT, xT, rfl, rfl, szT, vT⟩
  refine ⟨PySem.W.fnOf "law" "law" (defArgs sLaw) (defBody sLaw) (defScope sLaw) .none kV23 dc23 pm23 an23 cd23 ct23, fun s v => .of_eq rfl, fun base _ _ => ?_⟩
  have gCo := ok_cases (P := l.prog) (w := w) (mg := mg) (base := base) F1 y2
  have gOo := ok_other (P := l.prog) (w := w) (mg := mg) (base := base) F2
  have gTn := ok_tn (P := l.prog) (w := w) (mg := mg) (base := base) F3
  have gJt := ok_jt F4 gTn b3 k3 g3
  have gEs := ok_esc (P := l.prog) (w := w) (mg := mg) (base := base) F5 EE
  have gKe := ok_key (P := l.prog) (w := w) (mg := mg) (base := base) F6 y5 y6
  have gCp := ok_cp F7 g_OFFSET_MARK gCo b1 k1 g1 gKe b6 k6 g6 gOo b2 k2 g2
  have gNp := ok_np F8 gEs b5 k5 g5 gCp b7 k7 g7
  have gFm := ok_fm F9 gNp b8 k8 g8 y5 y6 y2
  have gIt := ok_it (P := l.prog) (w := w) (mg := mg) (base := base) F10
  have gOi := ok_oi (P := l.prog) (w := w) (mg := mg) (base := base) FM1 OO
  have gOd := ok_od (P := l.prog) (w := w) (mg := mg) (base := base) FM2 OO y2
  have gRi := ok_ri (P := l.prog) (w := w) (mg := mg) (base := base) FM3 RR
  have gSg := ok_sg (P := l.prog) (w := w) (mg := mg) (base := base) FM4 RR y1
  have gSk := ok_sk (P := l.prog) (w := w) (mg := mg) (base := base) FM5 RR y1 g_SPACES
  have gTs := ok_ts FM6 RR gSk bM5 M5 gSg bM4 M4
  have gTr := ok_tr FM7 RR y1 gSg bM4 M4
  have gNa := ok_na FM8 RR y1 g_LETTERS g_MOST_LETTERS gTr bM7 M7
  have gTm := ok_tm FM9 RR y1 y4 g_FIGURES gTr bM7 M7
  have gTk := ok_tk FM10 RR g_LETTERS gSk bM5 M5 gTr bM7 M7
  have gTo := ok_to FM11 RR y1 g_OFFSET_MARK g_OFFSET_FIGURES gSk bM5 M5 gTm bM9 M9
  have gTq := ok_tq FM12 RR gT kT g_KEY_FIGURES gSg bM4 M4 gTm bM9 M9 gNa bM8 M8
  have gBc := ok_bc FM13 RR OO gSk bM5 M5 gTq bM12 M12 gNa bM8 M8 gTs bM6 M6
  have gBh := ok_bh FM14 RR OO gTs bM6 M6 gTk bM10 M10 gTo bM11 M11 MO gC2 gOi bM1 gBc bM13 M13
  have gRa := ok_ra FM15 RR gTs bM6 M6 gSk bM5 M5 gNa bM8 M8 gSg bM4 M4 gBh bM14 M14
  have gEm := ok_em FM16 RR OO gTs bM6 M6 gJt b4 k4 g4 gBc bM13 M13 gOd bM2 M2
  have gRe := ok_re (P := l.prog) (w := w) (mg := mg) (base := base) FM17 RR EE hk A2 y1
  have gRs := ok_rs FM18 RR gSg bM4 M4 gIt b10 k10 g10
  have gRn := ok_rn FM19 RR gSg bM4 M4 gRa bM15 M15 gEm bM16 M16 gRe bM17 M17 gRs bM18 M18
  have gPm := ok_pm F11 RR MR gC gRi bM3 gRn bM19 M19 gJt b4 k4 g4 y1
  have gCe := ok_cell (P := l.prog) (w := w) (mg := mg) (base := base) F12 y1
  have gDg := ok_digits F13 gCe b12 k12 g12 y3 y4
  have gDr := ok_draw (P := l.prog) (w := w) (mg := mg) (base := base) F14 y1 y4
  have gSt := ok_string F15 gDr b14 k14 g14
  have gM := both gDr b14 k14 g14 gSt b15 k15 g15 F16 b16 g16 F17 b17 g17 F18 b18 g18 y3 y1 2
  have gLe := ok_le (P := l.prog) (w := w) (mg := mg) (base := base) F19
  have gGa := ok_gap F20 gDr b14 k14 g14
  have gOn := ok_one F21 gDr b14 k14 g14
  have gWr := ok_wr F22 b22 g22 gLe b19 k19 g19 gGa b20 k20 g20 gOn b21 k21 g21 y5 y6 3
  exact ok_law F23 gDg b13 k13 g13 gM b18 k18 g18 gWr b22 k22 g22 gFm b9 k9 g9 gPm b11 k11 g11 y5 y2
theorem walk {l : PySem.W.OpenLaw} {q : Program} {loose : List Str} {XP : (Str → Option Value) → Heap → Prop} {YP : World → Heap → Prop} {d : DefRec} {K : Params → PySem.W.Frag} (hn : l.most = some 63) (hdf : d.params.defaults = [])
    (hY : ∀ (w : World) (h : Heap), YP w h → (K w.params).In h)
    (F : ∀ (w : World) (mg : Str → Option Value) (fa : Addr) (h : Heap), (K w.params).In h → h.Ns mainGlobals mg → mg d.name = some (.ref fa) →
      ∃ fd : FuncData, (∀ (s : Shared) (u : Value), BindsTo s fd ⟨[u], []⟩ [("script", u)]) ∧ ∀ base : Heap, (K w.params).In base → base.Ns mainGlobals mg → FnOk l.prog w (K w.params) mg base CX0 10 fa fd ["script"] (spLaw (K w.params))) :
    PySem.W.WalkO q loose XP YP l.row.toRowW d [] (fun f vs => PySem.call f vs) :=
  L2.walk_of (n := 63) (k := 10) (x := "script") (CX := fun _ => CX0) (sp := fun w => spLaw (K w.params)) hn (by decide) hdf ⟨rfl, by decide, by decide⟩ hY F (fun _ _ a ns _ _ hS => ⟨a, ns, rfl, hS, fun _ => rfl⟩) fun _ _ _ _ _ z => z
end Mw
open PySem PySem.W PyProof.Rows
set_option maxRecDepth 100000 in
set_option maxHeartbeats 0 in
theorem PySem.Challenge.cw_messageways_k02_notations_are_read_back_holds : PySem.Challenge.rw_messageways_k02_notations_are_read_back.Holds := by
  w_on; o_law; k_head; (case hw => w_witness2)
  k_fill
  refine Mw.walk (l := PySem.Challenge.rw_messageways_k02_notations_are_read_back) rfl rfl (fun w h Y => PySem.W.kIn_of Y) ?F
  case F =>
    intro w mg fa h KX G hmg
    refine' Mw.all_mk KX G hmg ?a1 ?l1 ?c1 ?k1 ?a2 ?l2 ?c2 ?k2 ?a3 ?l3 ?c3 ?k3 ?a4 ?l4 ?c4 ?k4 ?a5 ?l5 ?c5 ?k5 ?a6 ?l6 ?c6 ?k6 ?a7 ?l7 ?c7 ?k7 ?a8 ?l8 ?c8 ?k8 ?a9 ?l9 ?c9 ?k9 ?a10 ?l10 ?c10 ?k10 ?a11 ?l11 ?c11 ?k11 ?a12 ?l12 ?c12 ?k12 ?a13 ?l13 ?c13 ?k13 ?a14 ?l14 ?c14 ?k14 ?a15 ?l15 ?c15 ?k15 ?a16 ?l16 ?c16 ?k16 ?a17 ?l17 ?c17 ?k17 ?a18 ?l18 ?c18 ?k18 ?a19 ?l19 ?c19 ?k19 ?a20 ?l20 ?c20 ?k20 ?a21 ?l21 ?c21 ?k21 ?a22 ?l22 ?c22 ?k22 ?a23 ?l23 ?c23 ?k23 ?aC ?mk1C ?mk4C ?pgC ?hdC ?poC ?saC ?aC2 ?mk1C2 ?mk4C2 ?pgC2 ?hdC2 ?poC2 ?saC2 ?nC_text ?nC_place ?nC_nodes ?nC_choices ?nC_plurals ?nO_head ?nO_around ?nO_cases ?nO_key ?ma1 ?ml1 ?mc1 ?mf1 ?mk1 ?ma2 ?ml2 ?mc2 ?mf2 ?mk2 ?ma3 ?ml3 ?mc3 ?mf3 ?mk3 ?ma4 ?ml4 ?mc4 ?mf4 ?mk4 ?ma5 ?ml5 ?mc5 ?mf5 ?mk5 ?ma6 ?ml6 ?mc6 ?mf6 ?mk6 ?ma7 ?ml7 ?mc7 ?mf7 ?mk7 ?ma8 ?ml8 ?mc8 ?mf8 ?mk8 ?ma9 ?ml9 ?mc9 ?mf9 ?mk9 ?ma10 ?ml10 ?mc10 ?mf10 ?mk10 ?ma11 ?ml11 ?mc11 ?mf11 ?mk11 ?ma12 ?ml12 ?mc12 ?mf12 ?mk12 ?ma13 ?ml13 ?mc13 ?mf13 ?mk13 ?ma14 ?ml14 ?mc14 ?mf14 ?mk14 ?ma15 ?ml15 ?mc15 ?mf15 ?mk15 ?ma16 ?ml16 ?mc16 ?mf16 ?mk16 ?ma17 ?ml17 ?mc17 ?mf17 ?mk17 ?ma18 ?ml18 ?mc18 ?mf18 ?mk18 ?ma19 ?ml19 ?mc19 ?mf19 ?mk19 ?k_LETTERS ?k_FIGURES ?k_SPACES ?k_OFFSET_MARK ?k_MOST_LETTERS ?k_OFFSET_FIGURES ?k_KEY_FIGURES ?aE ?xE ?litE ?lowE ?keysE ?q1 ?q2 ?q3 ?q4 ?aT ?xT ?szT ?vT ?z1 ?z2 ?z3 ?z4 ?z5 ?z6
    (case a1 => k_is); (case l1 => k_is); (case c1 => k_is); (case k1 => k_is)
    (case a2 => k_is); (case l2 => k_is); (case c2 => k_is); (case k2 => k_is)
    (case a3 => k_is); (case l3 => k_is); (case c3 => k_is); (case k3 => k_is)
    (case a4 => k_is); (case l4 => k_is); (case c4 => k_is); (case k4 => k_is)
    (case a5 => k_is); (case l5 => k_is); (case c5 => k_is); (case k5 => k_is)
    (case a6 => k_is); (case l6 => k_is); (case c6 => k_is); (case k6 => k_is)
    (case a7 => k_is); (case l7 => k_is); (case c7 => k_is); (case k7 => k_is)
    (case a8 => k_is); (case l8 => k_is); (case c8 => k_is); (case k8 => k_is)
    (case a9 => k_is); (case l9 => k_is); (case c9 => k_is); (case k9 => k_is)
    (case a10 => k_is); (case l10 => k_is); (case c10 => k_is); (case k10 => k_is)
    (case a11 => k_is); (case l11 => k_is); (case c11 => k_is); (case k11 => k_is)
    (case a12 => k_is); (case l12 => k_is); (case c12 => k_is); (case k12 => k_is)
    (case a13 => k_is); (case l13 => k_is); (case c13 => k_is); (case k13 => k_is)
    (case a14 => k_is); (case l14 => k_is); (case c14 => k_is); (case k14 => k_is)
    (case a15 => k_is); (case l15 => k_is); (case c15 => k_is); (case k15 => k_is)
    (case a16 => k_is); (case l16 => k_is); (case c16 => k_is); (case k16 => k_is)
    (case a17 => k_is); (case l17 => k_is); (case c17 => k_is); (case k17 => k_is)
    (case a18 => k_is); (case l18 => k_is); (case c18 => k_is); (case k18 => k_is)
    (case a19 => k_is); (case l19 => k_is); (case c19 => k_is); (case k19 => k_is)
    (case a20 => k_is); (case l20 => k_is); (case c20 => k_is); (case k20 => k_is)
    (case a21 => k_is); (case l21 => k_is); (case c21 => k_is); (case k21 => k_is)
    (case a22 => k_is); (case l22 => k_is); (case c22 => k_is); (case k22 => k_is)
    (case a23 => k_is); (case l23 => k_is); (case c23 => k_is); (case k23 => k_is)
    (case aC => k_is)
    (case mk1C => k_is)
    (case mk4C => k_is)
    (case pgC => k_is)
    (case hdC => k_is)
    (case poC => k_is)
    (case saC => k_is)
    (case aC2 => k_is)
    (case mk1C2 => k_is)
    (case mk4C2 => k_is)
    (case pgC2 => k_is)
    (case hdC2 => k_is)
    (case poC2 => k_is)
    (case saC2 => k_is)
    (case nC_text => k_is)
    (case nC_place => k_is)
    (case nC_nodes => k_is)
    (case nC_choices => k_is)
    (case nC_plurals => k_is)
    (case nO_head => k_is)
    (case nO_around => k_is)
    (case nO_cases => k_is)
    (case nO_key => k_is)
    (case ma1 => k_is)
    (case ml1 => k_is)
    (case mc1 => k_is)
    (case mf1 => k_is)
    (case mk1 => k_is)
    (case ma2 => k_is)
    (case ml2 => k_is)
    (case mc2 => k_is)
    (case mf2 => k_is)
    (case mk2 => k_is)
    (case ma3 => k_is)
    (case ml3 => k_is)
    (case mc3 => k_is)
    (case mf3 => k_is)
    (case mk3 => k_is)
    (case ma4 => k_is)
    (case ml4 => k_is)
    (case mc4 => k_is)
    (case mf4 => k_is)
    (case mk4 => k_is)
    (case ma5 => k_is)
    (case ml5 => k_is)
    (case mc5 => k_is)
    (case mf5 => k_is)
    (case mk5 => k_is)
    (case ma6 => k_is)
    (case ml6 => k_is)
    (case mc6 => k_is)
    (case mf6 => k_is)
    (case mk6 => k_is)
    (case ma7 => k_is)
    (case ml7 => k_is)
    (case mc7 => k_is)
    (case mf7 => k_is)
    (case mk7 => k_is)
    (case ma8 => k_is)
    (case ml8 => k_is)
    (case mc8 => k_is)
    (case mf8 => k_is)
    (case mk8 => k_is)
    (case ma9 => k_is)
    (case ml9 => k_is)
    (case mc9 => k_is)
    (case mf9 => k_is)
    (case mk9 => k_is)
    (case ma10 => k_is)
    (case ml10 => k_is)
    (case mc10 => k_is)
    (case mf10 => k_is)
    (case mk10 => k_is)
    (case ma11 => k_is)
    (case ml11 => k_is)
    (case mc11 => k_is)
    (case mf11 => k_is)
    (case mk11 => k_is)
    (case ma12 => k_is)
    (case ml12 => k_is)
    (case mc12 => k_is)
    (case mf12 => k_is)
    (case mk12 => k_is)
    (case ma13 => k_is)
    (case ml13 => k_is)
    (case mc13 => k_is)
    (case mf13 => k_is)
    (case mk13 => k_is)
    (case ma14 => k_is)
    (case ml14 => k_is)
    (case mc14 => k_is)
    (case mf14 => k_is)
    (case mk14 => k_is)
    (case ma15 => k_is)
    (case ml15 => k_is)
    (case mc15 => k_is)
    (case mf15 => k_is)
    (case mk15 => k_is)
    (case ma16 => k_is)
    (case ml16 => k_is)
    (case mc16 => k_is)
    (case mf16 => k_is)
    (case mk16 => k_is)
    (case ma17 => k_is)
    (case ml17 => k_is)
    (case mc17 => k_is)
    (case mf17 => k_is)
    (case mk17 => k_is)
    (case ma18 => k_is)
    (case ml18 => k_is)
    (case mc18 => k_is)
    (case mf18 => k_is)
    (case mk18 => k_is)
    (case ma19 => k_is)
    (case ml19 => k_is)
    (case mc19 => k_is)
    (case mf19 => k_is)
    (case mk19 => k_is)
    (case k_LETTERS => k_is)
    (case k_FIGURES => k_is)
    (case k_SPACES => k_is)
    (case k_OFFSET_MARK => k_is)
    (case k_MOST_LETTERS => k_is)
    (case k_OFFSET_FIGURES => k_is)
    (case k_KEY_FIGURES => k_is)
    (case aE => k_is)
    (case xE => k_is)
    (case litE => k_keys)
    (case lowE => decide)
    (case keysE => rfl)
    (case q1 => k_is)
    (case q2 => k_is)
    (case q3 => k_is)
    (case q4 => k_is)
    (case aT => k_is)
    (case xT => k_is)
    (case szT => exact (by decide))
    (case vT => exact .cons ⟨_, rfl⟩ (.cons ⟨_, rfl⟩ (.cons ⟨_, rfl⟩ (.cons ⟨_, rfl⟩ (.cons ⟨_, rfl⟩ .nil)))))
    (case z1 => k_is)
    (case z2 => k_is)
    (case z3 => k_is)
    (case z4 => k_is)
    (case z5 => k_is)
    (case z6 => k_is)

