import PyProof.Rows.All
import Wide.All
import OpenK.AllK
import Wide.FinOn
import HandS.Base
import HandS.Call
import HandS.List
import HandS.Comp
import HandS.Ends
import HandS.Dict
import HandS.Iter
import HandS.Text
import HandS.Words
import HandS.WordsList
import HandS.Evl
import HandS.Style
import HandS.Walk
import HandS.Zip
import PyProof.EqAt
import PyProof.EqKinds
import PyProof.TupleCall
import HandS.FStr
import HandS.FStrTup
import HandS.IsInst
import HandS.TupMul
import HandS.Strs
import HandS.Gcd
import KE.KMathGC
import PyProof.P3In
import PyProof.Rows.MinMaxN
import KE.SortKeyHeap
import HandS.Lambda
import HandS.SortKw
import HandS.WordsDict
import HandS.EndTab
import KE.KNestM
import PySem.Challenge.RW_messageways_k43_categories_left_out
set_option Elab.async false
set_option maxRecDepth 100000
namespace Mw
open PySem L2
def top (i : Nat) : Stmt := PySem.Challenge.pw_messageways_k43_categories_left_out.main.body.getD i (.Pass ⟨0, 0, 0, 0⟩)
/-! ### trees of messages: a message is a chain of nodes, the cases of a choice a chain of cas -/
inductive T where
  | nil
  | text (s : Str) (r : T)
  | shw (n : Str) (r : T)
  | num (r : T)
  | cho (hd : List V) (cs o r : T)
  | cas (k : V) (m r : T)
/-- the values vs are the nodes (the cases) of the tree, as the heap has them -/
def Nodes (H : Hp) : T → List V → Prop
  | .nil, vs => vs = []
  | .text s r, vs => ∃ p ws, vs = .ref p :: ws ∧ H p = some (.tup [.str "text", .str s]) ∧ Nodes H r ws
  | .shw n r, vs => ∃ p ws, vs = .ref p :: ws ∧ H p = some (.tup [.str "show", .str n]) ∧ Nodes H r ws
  | .num r, vs => ∃ p ws, vs = .ref p :: ws ∧ H p = some (.tup [.str "number"]) ∧ Nodes H r ws
  | .cho hd cs o r, vs => ∃ p ws ca cvs oa ovs, vs = .ref p :: ws ∧ H p = some (.tup (hd ++ [.ref ca, .ref oa])) ∧ H ca = some (.lst cvs) ∧ Nodes H cs cvs ∧ H oa = some (.lst ovs) ∧ Nodes H o ovs ∧ Nodes H r ws
  | .cas k m r, vs => ∃ p ws ma mvs, vs = .ref p :: ws ∧ H p = some (.tup [k, .ref ma]) ∧ H ma = some (.lst mvs) ∧ Nodes H m mvs ∧ Nodes H r ws
/-- a list at a that is a message -/
def At (H : Hp) (a : Addr) (t : T) : Prop := ∃ vs, H a = some (.lst vs) ∧ Nodes H t vs
/-- all but the box stays; the box is a list of a ref and an int -/
def IsBox (vs : List V) : Prop := ∃ d i, vs = [.ref d, .int i]
def Ext (B : Addr) (H H' : Hp) : Prop := ∀ b o, b ≠ B → H b = some o → H' b = some o
theorem Ext.refl {B : Addr} (H : Hp) : Ext B H H := fun _ _ _ h => h
theorem Ext.trans {B : Addr} {H H1 H2 : Hp} (a : Ext B H H1) (b : Ext B H1 H2) : Ext B H H2 := fun c o n h => b c o n (a c o n h)
theorem Ext.of {B : Addr} {H H' : Hp} (s : Same H H') : Ext B H H' := fun b o _ h => s b o h
theorem same_new {H : Hp} {p : Addr} (h : H p = none) (o : HO) : Same H (upd H p o) := fun b u q => by
  rw [upd_ne (ne_of_none q h)]
  exact q
theorem same_mut {H H' : Hp} {p : Addr} (s : Same H H') (h : H p = none) (o : HO) : Same H (upd H' p o) := fun b u q => by
  rw [upd_ne (ne_of_none q h)]
  exact s b u q
theorem Nodes.refs {H : Hp} : ∀ {t : T} {vs : List V}, Nodes H t vs → ∀ v ∈ vs, ∃ a, v = .ref a
  | .nil, _, h, v, hv => by
    have h' : _ = [] := h
    subst h'
    cases hv
  | .text s r, _, h, v, hv => by
    obtain ⟨p, ws, rfl, _, hr⟩ := h
    rcases List.mem_cons.mp hv with rfl | hv
    · exact ⟨_, rfl⟩
    · exact Nodes.refs hr v hv
  | .shw n r, _, h, v, hv => by
    obtain ⟨p, ws, rfl, _, hr⟩ := h
    rcases List.mem_cons.mp hv with rfl | hv
    · exact ⟨_, rfl⟩
    · exact Nodes.refs hr v hv
  | .num r, _, h, v, hv => by
    obtain ⟨p, ws, rfl, _, hr⟩ := h
    rcases List.mem_cons.mp hv with rfl | hv
    · exact ⟨_, rfl⟩
    · exact Nodes.refs hr v hv
  | .cho hd cs o r, _, h, v, hv => by
    obtain ⟨p, ws, ca, cvs, oa, ovs, rfl, _, _, _, _, _, hr⟩ := h
    rcases List.mem_cons.mp hv with rfl | hv
    · exact ⟨_, rfl⟩
    · exact Nodes.refs hr v hv
  | .cas k m r, _, h, v, hv => by
    obtain ⟨p, ws, ma, mvs, rfl, _, _, _, hr⟩ := h
    rcases List.mem_cons.mp hv with rfl | hv
    · exact ⟨_, rfl⟩
    · exact Nodes.refs hr v hv
theorem Nodes.notBox {H : Hp} {t : T} {vs : List V} (h : Nodes H t vs) : ¬ IsBox vs := by
  rintro ⟨d, i, rfl⟩
  obtain ⟨a, e⟩ := h.refs (.int i) (by simp)
  cases e
theorem lst_ne {B a : Addr} {H : Hp} {bs vs : List V} (hb : H B = some (.lst bs)) (ib : IsBox bs) (ha : H a = some (.lst vs)) (nv : ¬ IsBox vs) : a ≠ B := by
  intro e
  subst e
  rw [hb] at ha
  cases ha
  exact nv ib
theorem tup_ne {B a : Addr} {H : Hp} {bs vs : List V} (hb : H B = some (.lst bs)) (ha : H a = some (.tup vs)) : a ≠ B := by
  intro e
  subst e
  rw [hb] at ha
  cases ha
/-- a tree stays where all but the box stays -/
theorem Nodes.ext {B : Addr} {H H' : Hp} {bs : List V} (hb : H B = some (.lst bs)) (ib : IsBox bs) (e : Ext B H H') : ∀ {t : T} {vs : List V}, Nodes H t vs → Nodes H' t vs
  | .nil, _, h => h
  | .text s r, _, h => by
    obtain ⟨p, ws, rfl, hp, hr⟩ := h
    exact ⟨p, ws, rfl, e _ _ (tup_ne hb hp) hp, Nodes.ext hb ib e hr⟩
  | .shw n r, _, h => by
    obtain ⟨p, ws, rfl, hp, hr⟩ := h
    exact ⟨p, ws, rfl, e _ _ (tup_ne hb hp) hp, Nodes.ext hb ib e hr⟩
  | .num r, _, h => by
    obtain ⟨p, ws, rfl, hp, hr⟩ := h
    exact ⟨p, ws, rfl, e _ _ (tup_ne hb hp) hp, Nodes.ext hb ib e hr⟩
  | .cho hd cs o r, _, h => by
    obtain ⟨p, ws, ca, cvs, oa, ovs, rfl, hp, hc, hcs, ho, hos, hr⟩ := h
    exact ⟨p, ws, ca, cvs, oa, ovs, rfl, e _ _ (tup_ne hb hp) hp, e _ _ (lst_ne hb ib hc hcs.notBox) hc, Nodes.ext hb ib e hcs, e _ _ (lst_ne hb ib ho hos.notBox) ho, Nodes.ext hb ib e hos, Nodes.ext hb ib e hr⟩
  | .cas k m r, _, h => by
    obtain ⟨p, ws, ma, mvs, rfl, hp, hm, hms, hr⟩ := h
    exact ⟨p, ws, ma, mvs, rfl, e _ _ (tup_ne hb hp) hp, e _ _ (lst_ne hb ib hm hms.notBox) hm, Nodes.ext hb ib e hms, Nodes.ext hb ib e hr⟩
theorem Nodes.same {H H' : Hp} (e : Same H H') : ∀ {t : T} {vs : List V}, Nodes H t vs → Nodes H' t vs
  | .nil, _, h => h
  | .text s r, _, h => by
    obtain ⟨p, ws, rfl, hp, hr⟩ := h
    exact ⟨p, ws, rfl, e _ _ hp, Nodes.same e hr⟩
  | .shw n r, _, h => by
    obtain ⟨p, ws, rfl, hp, hr⟩ := h
    exact ⟨p, ws, rfl, e _ _ hp, Nodes.same e hr⟩
  | .num r, _, h => by
    obtain ⟨p, ws, rfl, hp, hr⟩ := h
    exact ⟨p, ws, rfl, e _ _ hp, Nodes.same e hr⟩
  | .cho hd cs o r, _, h => by
    obtain ⟨p, ws, ca, cvs, oa, ovs, rfl, hp, hc, hcs, ho, hos, hr⟩ := h
    exact ⟨p, ws, ca, cvs, oa, ovs, rfl, e _ _ hp, e _ _ hc, Nodes.same e hcs, e _ _ ho, Nodes.same e hos, Nodes.same e hr⟩
  | .cas k m r, _, h => by
    obtain ⟨p, ws, ma, mvs, rfl, hp, hm, hms, hr⟩ := h
    exact ⟨p, ws, ma, mvs, rfl, e _ _ hp, e _ _ hm, Nodes.same e hms, Nodes.same e hr⟩
/-- two chains, one behind the other -/
def T.app : T → T → T
  | .nil, u => u
  | .text s r, u => .text s (r.app u)
  | .shw n r, u => .shw n (r.app u)
  | .num r, u => .num (r.app u)
  | .cho hd cs o r, u => .cho hd cs o (r.app u)
  | .cas k m r, u => .cas k m (r.app u)
theorem Nodes.app {H : Hp} {u : T} {us : List V} (hu : Nodes H u us) : ∀ {t : T} {vs : List V}, Nodes H t vs → Nodes H (t.app u) (vs ++ us)
  | .nil, _, h => by
    have h' : _ = [] := h
    subst h'
    exact hu
  | .text s r, _, h => by
    obtain ⟨p, ws, rfl, hp, hr⟩ := h
    exact ⟨p, ws ++ us, rfl, hp, Nodes.app hu hr⟩
  | .shw n r, _, h => by
    obtain ⟨p, ws, rfl, hp, hr⟩ := h
    exact ⟨p, ws ++ us, rfl, hp, Nodes.app hu hr⟩
  | .num r, _, h => by
    obtain ⟨p, ws, rfl, hp, hr⟩ := h
    exact ⟨p, ws ++ us, rfl, hp, Nodes.app hu hr⟩
  | .cho hd cs o r, _, h => by
    obtain ⟨p, ws, ca, cvs, oa, ovs, rfl, hp, hc, hcs, ho, hos, hr⟩ := h
    exact ⟨p, ws ++ us, ca, cvs, oa, ovs, rfl, hp, hc, hcs, ho, hos, Nodes.app hu hr⟩
  | .cas k m r, _, h => by
    obtain ⟨p, ws, ma, mvs, rfl, hp, hm, hms, hr⟩ := h
    exact ⟨p, ws ++ us, ma, mvs, rfl, hp, hm, hms, Nodes.app hu hr⟩
section
variable {P : Program} {w : World} {K : PySem.W.Frag} {mg : Str → Option Value} {base : Heap}
/-! ### _law_cell -/
abbrev sCell : Stmt := top 38
theorem scCell : FnScope ["script", "k"] ["script", "k"] (defScope sCell) := ⟨rfl, rfl, rfl, by decide +kernel, rfl, by decide +kernel, by decide +kernel⟩
def spCell (K : PySem.W.Frag) : Sp := fun vs H Q _ => ∃ (a : Addr) (ns : List Int) (k : Int), vs = [.ref a, .int k] ∧ SqL K H a (ns.map V.int) ∧ 0 ≤ k ∧ ∀ z, Q (.int z) H
theorem ok_cell {f : Addr} {fd : FuncData} (F : Fun K "_law_cell" "_law_cell" sCell f fd) (ml : mg "len" = none) : FnOk P w K mg base CX0 1 f fd ["script", "k"] (spCell K) := by
  refine F.ok scCell (fun vs H Q E h => ?_) (fun cdv A outer s H vs Q E hr h => ?_)
  · obtain ⟨a, ns, k, rfl, _⟩ := h
    rfl
  obtain ⟨a, ns, k, rfl, hS, h0, q⟩ := h
  refine ⟨_, pss_cons (ps_if (pt_cmpR op_lt (pv 1) (pe_callB call_len_seq (by rfl) ml PySem.boot_len (pa_cons (pv 0) pa_nil)) (nomark _)) (pss_one (ps_ret (pe_ix ix_list (pv 0) (pv 1) (fun _ _ => rfl)))) pss_nil)
    (pss_one (ps_ret pe_int)), ?_⟩
  refine ⟨_, rfl, _, rfl, a, _, rfl, .inl hS, _, _, rfl, rfl, _, rfl, ?_⟩
  refine ite2 (fun c => ?_) (fun c => ?_)
  · have c' := of_decide_eq_true c
    rw [List.length_map] at c'
    have hk : k.toNat < ns.length := by omega
    refine ⟨_, rfl, _, rfl, a, _, k, .int ns[k.toNat], rfl, rfl, hS, at_of (j := k.toNat) (by omega) (by rw [List.getElem?_map, List.getElem?_eq_getElem hk] <;> rfl), q _⟩
  · exact q _
end
end Mw

namespace Mw
open PySem L2
/-! ### how a heap goes on: all but the box stays, nothing is given up -/
structure Go (B : Addr) (H H' : Hp) : Prop where
  ext : ∀ b o, b ≠ B → H b = some o → H' b = some o
  dom : ∀ b, H' b = none → H b = none
theorem Go.refl (B : Addr) (H : Hp) : Go B H H := ⟨fun _ _ _ h => h, fun _ h => h⟩
theorem Go.trans {B : Addr} {H H1 H2 : Hp} (a : Go B H H1) (b : Go B H1 H2) : Go B H H2 := ⟨fun c o n h => b.ext c o n (a.ext c o n h), fun c h => a.dom c (b.dom c h)⟩
theorem upd_none {H : Hp} {p b : Addr} {o : HO} (h : upd H p o b = none) : H b = none := by
  unfold upd at h
  split at h
  · cases h
  · exact h
theorem Go.new {B : Addr} {H : Hp} {p : Addr} (h : H p = none) (o : HO) : Go B H (upd H p o) := ⟨fun b u _ q => same_new h o b u q, fun b q => upd_none q⟩
theorem Go.mut {B : Addr} {H H' : Hp} {p : Addr} (g : Go B H H') (h : H p = none) (o : HO) : Go B H (upd H' p o) :=
  ⟨fun b u n q => by
    rw [upd_ne (ne_of_none q h)]
    exact g.ext b u n q, fun b q => g.dom b (upd_none q)⟩
theorem Go.box (B : Addr) (H : Hp) (o : HO) : Go B H (upd H B o) := ⟨fun b u n q => by rw [upd_ne n]; exact q, fun b q => upd_none q⟩
theorem Go.same {B : Addr} {H H' : Hp} (s : Same H H') : Go B H H' := ⟨fun b o _ h => s b o h, fun b h => s.free h⟩
/-- what is new in H, seen from H0 -/
def fr (H0 H : Hp) : Hp := fun a => match H0 a with
  | none => H a
  | some _ => none
theorem fr_new {H0 H : Hp} {a : Addr} (h : H0 a = none) : fr H0 H a = H a := by
  unfold fr
  rw [h]
theorem fr_old {H0 H : Hp} {a : Addr} {o : HO} (h : H0 a = some o) : fr H0 H a = none := by
  unfold fr
  rw [h]
theorem fr_in {H0 H : Hp} {a : Addr} {o : HO} (h : fr H0 H a = some o) : H0 a = none ∧ H a = some o := by
  unfold fr at h
  split at h
  · exact ⟨by assumption, h⟩
  · cases h
theorem fr_go {B : Addr} {H0 H1 H2 : Hp} {ob : HO} (hb : H0 B = some ob) (g : Go B H1 H2) : Same (fr H0 H1) (fr H0 H2) := fun a o h => by
  obtain ⟨h0, h1⟩ := fr_in h
  rw [fr_new h0]
  exact g.ext a o (by rintro rfl; rw [hb] at h0; cases h0) h1
theorem fr_same {H0 H1 H2 : Hp} (g : Same H1 H2) : Same (fr H0 H1) (fr H0 H2) := fun a o h => by
  obtain ⟨h0, h1⟩ := fr_in h
  rw [fr_new h0]
  exact g a o h1
theorem fr_mut {H0 H1 : Hp} {l : Addr} {ol : HO} (hl : H0 l = some ol) (o : HO) : Same (fr H0 H1) (fr H0 (upd H1 l o)) := fun a u h => by
  obtain ⟨h0, h1⟩ := fr_in h
  rw [fr_new h0, upd_ne (by rintro rfl; rw [hl] at h0; cases h0)]
  exact h1
theorem fr_dom {H0 H1 H2 : Hp} (g : ∀ b, H1 b = none → H0 b = none) : Same (fr H1 H2) (fr H0 H2) := fun a u h => by
  obtain ⟨h0, h1⟩ := fr_in h
  rw [fr_new (g a h0)]
  exact h1
theorem fr_out {H0 H : Hp} : Same (fr H0 H) H := fun a o h => (fr_in h).2
/-- the box: digits and a place -/
def Box (H : Hp) (B d : Addr) : Prop := ∃ (ds : List Int) (i : Int), H B = some (.lst [.ref d, .int i]) ∧ H d = some (.lst (ds.map V.int)) ∧ 0 ≤ i
theorem Box.isB {H : Hp} {B d : Addr} (b : Box H B d) : ∃ o, H B = some o := by
  obtain ⟨ds, i, h, _⟩ := b
  exact ⟨_, h⟩
theorem Box.isD {H : Hp} {B d : Addr} (b : Box H B d) : ∃ o, H d = some o := by
  obtain ⟨ds, i, _, h, _⟩ := b
  exact ⟨_, h⟩
theorem Box.neB {H : Hp} {B d l : Addr} (b : Box H B d) (h : H l = none) : l ≠ B := by
  obtain ⟨o, hB⟩ := b.isB
  exact (ne_of_none hB h).symm
theorem Box.neD {H : Hp} {B d l : Addr} (b : Box H B d) (h : H l = none) : l ≠ d := by
  obtain ⟨o, hB⟩ := b.isD
  exact (ne_of_none hB h).symm
theorem Box.ne {H : Hp} {B d : Addr} {ds : List Int} {i : Int} (h : H B = some (.lst [.ref d, .int i])) (hd : H d = some (.lst (ds.map V.int))) : d ≠ B := by
  rintro rfl
  rw [h] at hd
  cases ds with
  | nil => cases hd
  | cons z r => cases hd
theorem Box.same {H H' : Hp} {B d : Addr} (s : Same H H') (b : Box H B d) : Box H' B d := by
  obtain ⟨ds, i, h, hd, hi⟩ := b
  exact ⟨ds, i, s _ _ h, s _ _ hd, hi⟩
theorem Box.mut {H : Hp} {B d l : Addr} (b : Box H B d) (hB : l ≠ B) (hd : l ≠ d) (o : HO) : Box (upd H l o) B d := by
  obtain ⟨ds, i, h, hd', hi⟩ := b
  exact ⟨ds, i, by rw [upd_ne hB.symm]; exact h, by rw [upd_ne hd.symm]; exact hd', hi⟩
theorem Box.new {H : Hp} {B d l : Addr} (b : Box H B d) (h : H l = none) (o : HO) : Box (upd H l o) B d := b.mut (b.neB h) (b.neD h) o
end Mw

namespace Mw
open PySem L2
section
variable {P : Program} {w : World} {K : PySem.W.Frag} {mg : Str → Option Value} {base : Heap}
/-! ### _law_row: a new list of ints -/
abbrev sRow : Stmt := top 39
theorem scRow : FnScope ["cell", "k", "many", "row", "turn", "seed"] ["cell", "k", "many"] (defScope sRow) := ⟨rfl, rfl, rfl, by decide +kernel, rfl, by decide +kernel, by decide +kernel⟩
def spRow : Sp := fun vs H Q _ => ∃ (c k : Int), vs = [.int c, .int k, .int 12] ∧ ∀ (d : Addr) (H' : Hp) (ds : List Int), H d = none → Same H H' → H' d = some (.lst (ds.map V.int)) → ds.length ≤ 12 → Q (.ref d) H'
theorem len_ints (ds : List Int) (z : Int) : ds.map V.int ++ [V.int z] = (ds ++ [z]).map V.int := by simp
theorem ok_row {f : Addr} {fd : FuncData} (F : Fun K "_law_row" "_law_row" sRow f fd) (mr : mg "range" = none) (mi : mg "int" = none) (ml : mg "len" = none) :
    FnOk P w K mg base CX0 1 f fd ["cell", "k", "many"] spRow := by
  refine F.ok scRow (fun vs H Q E h => ?_) (fun cdv A outer s H vs Q E hr h => ?_)
  · obtain ⟨c, k, rfl, _⟩ := h
    rfl
  obtain ⟨c, k, rfl, q⟩ := h
  have nd := scRow.nd
  refine ⟨_, pss_cons (ps_set (i := 3) nd rfl (.inl rfl) (pe_lst pa_nil))
    (Evl.pss_cut (ps_if (pt_cmpR op_lt (pv 0) pe_int (nomark _)) (pss_one (ps_set (i := 0) nd rfl (.inl rfl) (pe_op op_sub pe_int (pe_op op_mul pe_int (pv 0))))) pss_nil)
    (pss_cons (ps_if (pt_cmpR op_ge (pv 0) (pe_op op_pow pe_int pe_int) (nomark _))
      (pss_cons (ps_for PassesOwn.never rfl (pi_range1 rfl mr (pa_cons pe_int pa_nil)) (pg_name (i := 4) nd rfl (.inl rfl))
        (pss_one (ps_if (PW.pt (pw_and (pt_cmpR op_gt (pv 0) pe_int (nomark _)) (pw_and1 (pt_cmpR op_lt (pe_callB call_len_seq (by rfl) ml PySem.boot_len (pa_cons (pv 3) pa_nil)) (pv 2) (nomark _)))))
          (pss_cons (ps_expr (pe_bm PySem.F.plainAttrs_list PySem.F.slot_list_append PySem.F.type_list_append mt_append (pv 3) (pa_cons (pe_op op_mod (pe_callTy call_int1 (by rfl) mi (by decide +kernel) (pa_cons (pv 0) pa_nil)) pe_int) pa_nil)))
          (pss_one (ps_set (i := 0) nd rfl (.inl rfl) (pe_op op_fdiv (pv 0) pe_int)))) pss_nil)))
      (pss_one (ps_ret (pv 3)))) pss_nil)
    (pss_cons (ps_set (i := 5) nd rfl (.inl rfl) (pe_op op_mod (pe_callTy call_int1 (by rfl) mi (by decide +kernel) (pa_cons (pe_op op_add (pe_op op_add (pe_op op_mul (pv 0) pe_int) (pe_op op_mul (pv 1) pe_int)) pe_int) pa_nil)) pe_int))
    (pss_cons (ps_for PassesOwn.never rfl (pi_range1 rfl mr (pa_cons (pv 2) pa_nil)) (pg_name (i := 4) nd rfl (.inl rfl))
        (pss_cons (ps_set (i := 5) nd rfl (.inl rfl) (pe_op op_mod (pe_callTy call_int1 (by rfl) mi (by decide +kernel) (pa_cons (pe_op op_add (pe_op op_add (pe_op op_mul (pv 5) pe_int) (pe_op op_mul pe_int (pv 4))) pe_int) pa_nil)) pe_int))
        (pss_one (ps_expr (pe_bm PySem.F.plainAttrs_list PySem.F.slot_list_append PySem.F.type_list_append mt_append (pv 3) (pa_cons (pe_op op_mod (pe_callTy call_int1 (by rfl) mi (by decide +kernel) (pa_cons (pe_op op_fdiv (pv 5) pe_int) pa_nil)) pe_int) pa_nil))))))
    (pss_one (ps_ret (pv 3))))))), ?_⟩
  refine ⟨Nat.zero_le _, fun d nd0 => ?_⟩
  have s1 : Same H (upd H d (.lst [])) := same_new nd0 _
  refine ⟨fun σ' H' => ∃ z : Int, σ' = [some (.int z), some (.int k), some (.int 12), some (.ref d), none, none] ∧ H' = upd H d (.lst []), ?_, ?_⟩
  · refine ⟨_, rfl, _, _, rfl, rfl, _, rfl, ?_⟩
    refine ite2 (fun _ => ?_) (fun _ => ?_)
    · exact ⟨_, rfl, _, _, rfl, rfl, .inl (by decide), _, _, rfl, rfl, _, rfl, rfl⟩
    · exact ⟨_, rfl, rfl⟩
  rintro σ' H' ⟨z, rfl, rfl⟩
  refine ⟨_, rfl, _, _, rfl, rfl, (by unfold CPow; decide), _, _, rfl, rfl, _, rfl, ?_⟩
  refine ite2 (fun _ => ?_) (fun _ => ?_)
  · refine ⟨60, rfl, by decide, by decide, for_range (lo := 0) (n := 60) (fun j σ H' => ∃ (ds : List Int) (z' : Int) (o4 : Option V), σ = [some (.int z'), some (.int k), some (.int 12), some (.ref d), o4, none] ∧ Same H H' ∧ H' d = some (.lst (ds.map V.int)) ∧ ds.length ≤ 12)
      ⟨[], z, none, rfl, s1, upd_same, Nat.zero_le _⟩ ?_ ?_⟩
    · rintro j σ H3 hj ⟨ds, z', o4, rfl, s3, hd3, hl3⟩
      refine ⟨_, rfl, _, _, rfl, rfl, _, rfl, ?_⟩
      by_cases c1 : z' > 0
      · rw [decide_eq_true c1]
        refine iteT ⟨_, rfl, d, _, rfl, .inl (SqL.of hd3), _, rfl, _, _, rfl, rfl, _, rfl, ?_⟩
        refine ite2 (fun c2 => ?_) (fun c2 => ?_)
        · have c3 := of_decide_eq_true c2
          rw [List.length_map] at c3
          refine ⟨_, rfl, .inl ⟨rfl, _, SqL.of hd3⟩, _, rfl, .inl ⟨_, rfl, _, _, rfl, rfl, (by show (0 : Int) < 1000; decide), d, _, _, rfl, rfl, hd3, ?_, ?_⟩⟩
          · rw [List.length_map]
            exact Nat.lt_of_lt_of_le (show ds.length < 100000 by omega) (by decide)
          · refine ⟨_, rfl, _, _, rfl, rfl, ⟨by decide, by decide⟩, ds ++ [z' % 1000], _, _, rfl, same_mut s3 nd0 _, ?_, ?_⟩
            · rw [upd_same, len_ints]
            · rw [List.length_append, List.length_singleton]
              omega
        · exact ⟨ds, _, _, rfl, s3, hd3, hl3⟩
      · rw [decide_eq_false c1]
        refine iteF ?_
        exact ⟨ds, _, _, rfl, s3, hd3, hl3⟩
    · rintro σ H3 ⟨ds, z', o4, rfl, s3, hd3, hl3⟩
      exact ⟨_, rfl, q d H3 ds nd0 s3 hd3 hl3⟩
  · refine ⟨_, rfl, _, _, rfl, rfl, .inr ⟨by decide, by decide⟩, _, rfl, _, _, rfl, rfl, .inr ⟨by decide, by decide⟩, _, _, rfl, rfl, _, _, rfl, rfl, .inl ⟨_, rfl, _, _, rfl, rfl, (by show (0 : Int) < 2147483647; decide), ?_⟩⟩
    refine ⟨_, rfl, 12, rfl, by decide, by decide, for_range (lo := 0) (n := 12) (fun j σ H' => ∃ (ds : List Int) (z' : Int) (o4 : Option V), σ = [some (.int z), some (.int k), some (.int 12), some (.ref d), o4, some (.int z')] ∧ Same H H' ∧ H' d = some (.lst (ds.map V.int)) ∧ ds.length ≤ j)
      ⟨[], _, none, rfl, s1, upd_same, Nat.zero_le _⟩ ?_ ?_⟩
    · rintro j σ H3 hj ⟨ds, z', o4, rfl, s3, hd3, hl3⟩
      refine ⟨_, rfl, _, _, rfl, rfl, .inr ⟨by decide, by decide⟩, _, rfl, _, _, rfl, rfl, .inl ⟨by decide, by decide⟩, _, _, rfl, rfl, _, _, rfl, rfl, .inl ⟨_, rfl, _, _, rfl, rfl, (by show (0 : Int) < 2147483647; decide), ?_⟩⟩
      refine ⟨_, rfl, .inl ⟨rfl, _, SqL.of hd3⟩, _, rfl, _, _, rfl, rfl, ⟨by decide, by decide⟩, .inl ⟨_, rfl, _, _, rfl, rfl, (by show (0 : Int) < 1000; decide), d, _, _, rfl, rfl, hd3, ?_, ?_⟩⟩
      · rw [List.length_map]
        exact Nat.lt_of_lt_of_le (show ds.length < 100000 by omega) (by decide)
      · refine ⟨_, _, _, rfl, same_mut s3 nd0 _, by rw [upd_same, len_ints], ?_⟩
        rw [List.length_append, List.length_singleton]
        omega
    · rintro σ H3 ⟨ds, z', o4, rfl, s3, hd3, hl3⟩
      exact ⟨_, rfl, q d H3 ds nd0 s3 hd3 hl3⟩
end
end Mw

namespace Mw
open PySem L2
section
variable {P : Program} {w : World} {K : PySem.W.Frag} {mg : Str → Option Value} {base : Heap}
/-! ### _law_box -/
abbrev sBox : Stmt := top 40
theorem scBox : FnScope ["script", "first", "last", "row", "k"] ["script", "first", "last"] (defScope sBox) := ⟨rfl, rfl, rfl, by decide +kernel, rfl, by decide +kernel, by decide +kernel⟩
def spBox (K : PySem.W.Frag) (n : Nat) : Sp := fun vs H Q _ => ∃ (a : Addr) (ns : List Int), vs = [.ref a, .int 0, .int n] ∧ SqL K H a (ns.map V.int) ∧ ∀ (B d : Addr) (H' : Hp), H B = none → H d = none → Same H H' → Box H' B d → Q (.ref B) H'
theorem ok_box {n : Nat} (hn : n ≤ 100) {f fC fR : Addr} {fd fdC fdR : FuncData} (F : Fun K "_law_box" "_law_box" sBox f fd)
    (GC : FnOk P w K mg base CX0 1 fC fdC ["script", "k"] (spCell K)) (bC : Binds K fdC ["script", "k"] []) (kC : PySem.W.keepIn K (.ref fC) = true) (mC : mg "_law_cell" = some (.ref fC))
    (GR : FnOk P w K mg base CX0 1 fR fdR ["cell", "k", "many"] spRow) (bR : Binds K fdR ["cell", "k", "many"] []) (kR : PySem.W.keepIn K (.ref fR) = true) (mR : mg "_law_row" = some (.ref fR)) (mr : mg "range" = none) :
    FnOk P w K mg base CX0 2 f fd ["script", "first", "last"] (spBox K n) := by
  refine F.ok scBox (fun vs H Q E h => ?_) (fun cdv A outer s H vs Q E hr h => ?_)
  · obtain ⟨a, ns, rfl, _⟩ := h
    rfl
  obtain ⟨a, ns, rfl, hS, q⟩ := h
  have nd := scBox.nd
  refine ⟨_, pss_cons (ps_set (i := 3) nd rfl (.inl rfl) (pe_lst pa_nil))
    (pss_cons (ps_for PassesOwn.never rfl (pi_range2 rfl mr (pa_cons (pv 1) (pa_cons (pv 2) pa_nil))) (pg_name (i := 4) nd rfl (.inl rfl))
      (pss_one (ps_set (i := 3) nd rfl (.inl rfl) (pe_op op_cat (pv 3) (pe_call GR hr rfl mR kR bR .nil pass0 (pa_cons (pe_call GC hr rfl mC kC bC .nil pass0 (pa_cons (pv 0) (pa_cons (pv 4) pa_nil))) (pa_cons (pv 4) (pa_cons pe_int pa_nil))))))))
    (pss_one (ps_ret (pe_lst (pa_cons (pv 3) (pa_cons pe_int pa_nil)))))), ?_⟩
  refine ⟨Nat.zero_le _, fun l0 hl0 => ?_⟩
  refine ⟨_, rfl, _, rfl, 0, n, rfl, by constructor <;> (try constructor) <;> omega, for_range (lo := 0) (n := ((n : Int) - 0).toNat) (fun i σ H' => ∃ (l : Addr) (ds : List Int) (o4 : Option V), σ = [some (.ref a), some (.int 0), some (.int n), some (.ref l), o4] ∧ Same H H' ∧ H l = none ∧ H' l = some (.lst (ds.map V.int)) ∧ ds.length ≤ 12 * i)
    ⟨l0, [], none, rfl, same_new hl0 _, hl0, upd_same, Nat.le_refl _⟩ ?_ ?_⟩
  · rintro i σ H2 hi ⟨l, ds, o4, rfl, s2, hl, hl2, hz⟩
    refine ⟨_, rfl, _, rfl, _, rfl, a, ns, _, rfl, s2.seq hS, by omega, fun z => ⟨_, rfl, z, _, rfl, fun d H3 es hd s3 hd3 he => ?_⟩⟩
    have hl3 := s3 _ _ hl2
    refine ⟨l, d, _, _, rfl, rfl, hl3, hd3, ?_, fun p hp => ⟨p, ds ++ es, _, rfl, (s2.trans s3).trans (same_new hp _), (s2.trans s3).free hp, ?_, ?_⟩⟩
    · rw [List.length_map, List.length_map]
      exact Nat.le_trans (show _ ≤ 100000 by omega) (by decide)
    · rw [upd_same, List.map_append]
    · rw [List.length_append]
      omega
  · rintro σ H2 ⟨l, ds, o4, rfl, s2, hl, hl2, hz⟩
    refine ⟨_, rfl, by show 2 ≤ sizeLine; decide, fun B hB => q B l _ (s2.free hB) hl (s2.trans (same_new hB _)) ⟨ds, 0, upd_same, ?_, Int.le_refl 0⟩⟩
    rw [upd_ne (ne_of_none hl2 hB)]
    exact hl2
/-! ### _law_draw -/
abbrev sDraw : Stmt := top 41
theorem scDraw : FnScope ["box", "many", "at"] ["box", "many"] (defScope sDraw) := ⟨rfl, rfl, rfl, by decide +kernel, rfl, by decide +kernel, by decide +kernel⟩
def spDraw : Sp := fun vs H Q _ => ∃ (B d : Addr) (n : Int), vs = [.ref B, .int n] ∧ 0 < n ∧ Box H B d ∧ ∀ z H', 0 ≤ z → z < n → Go B H H' → Box H' B d → Q (.int z) H'
theorem ok_draw {f : Addr} {fd : FuncData} (F : Fun K "_law_draw" "_law_draw" sDraw f fd) (ml : mg "len" = none) (mi : mg "int" = none) : FnOk P w K mg base CX0 1 f fd ["box", "many"] spDraw := by
  refine F.ok scDraw (fun vs H Q E h => ?_) (fun cdv A outer s H vs Q E hr h => ?_)
  · obtain ⟨B, d, n, rfl, _⟩ := h
    rfl
  obtain ⟨B, d, n, rfl, h0, ⟨ds, i, hB, hd, hi⟩, q⟩ := h
  have nd := scDraw.nd
  refine ⟨_, pss_cons (ps_set (i := 2) nd rfl (.inl rfl) (pe_ix ix_list (pv 0) pe_int (fun _ _ => rfl)))
    (pss_cons (ps_asg (pe_op op_add (pv 2) pe_int) (pg_sub (pv 0) pe_int set_list))
    (pss_cons (ps_if (pt_cmpR op_lt (pv 2) (pe_callB call_len_seq (by rfl) ml PySem.boot_len (pa_cons (pe_ix ix_list (pv 0) pe_int (fun _ _ => rfl)) pa_nil)) (nomark _))
      (pss_one (ps_ret (pe_op op_mod (pe_callTy call_int1 (by rfl) mi (by decide +kernel) (pa_cons (pe_ix ix_list (pe_ix ix_list (pv 0) pe_int (fun _ _ => rfl)) (pv 2) (fun _ _ => rfl)) pa_nil)) (pv 1)))) pss_nil)
    (pss_one (ps_ret (pe_op op_mod (pe_callTy call_int1 (by rfl) mi (by decide +kernel) (pa_cons (pe_op op_add (pe_op op_mul (pv 2) pe_int) pe_int) pa_nil)) (pv 1)))))), ?_⟩
  have ne : d ≠ B := Box.ne hB hd
  refine ⟨_, rfl, B, _, 1, _, rfl, rfl, SqL.of hB, atI_nat (j := 1) rfl, ?_⟩
  refine ⟨_, rfl, _, _, rfl, rfl, _, rfl, B, _, 1, 1, rfl, rfl, hB, rfl, ?_⟩
  have hB' : upd H B (.lst [.ref d, .int (i + 1)]) B = some (.lst [.ref d, .int (i + 1)]) := upd_same
  have hd' : upd H B (.lst [.ref d, .int (i + 1)]) d = some (.lst (ds.map V.int)) := by rw [upd_ne ne]; exact hd
  have hb : Box (upd H B (.lst [.ref d, .int (i + 1)])) B d := ⟨ds, i + 1, hB', hd', by omega⟩
  refine ⟨_, rfl, _, rfl, B, _, 0, _, rfl, rfl, SqL.of hB', atI_nat (j := 0) rfl, d, _, rfl, .inl (SqL.of hd'), _, _, rfl, rfl, _, rfl, ?_⟩
  refine ite2 (fun c => ?_) (fun c => ?_)
  · have c' := of_decide_eq_true c
    rw [List.length_map] at c'
    have hk : i.toNat < ds.length := by omega
    refine ⟨_, rfl, B, _, 0, _, rfl, rfl, SqL.of hB', atI_nat (j := 0) rfl, _, rfl, d, _, i, .int ds[i.toNat], rfl, rfl, SqL.of hd', at_of (j := i.toNat) (by omega) (by rw [List.getElem?_map, List.getElem?_eq_getElem hk] <;> rfl), .inl ⟨_, rfl, _, rfl, _, _, rfl, rfl, h0, ?_⟩⟩
    exact q _ _ (Int.emod_nonneg _ (by omega)) (Int.emod_lt_of_pos _ h0) (Go.box B H _) hb
  · refine ⟨_, rfl, _, _, rfl, rfl, .inr ⟨by decide, by decide⟩, _, _, rfl, rfl, .inl ⟨_, rfl, _, rfl, _, _, rfl, rfl, h0, ?_⟩⟩
    exact q _ _ (Int.emod_nonneg _ (by omega)) (Int.emod_lt_of_pos _ h0) (Go.box B H _) hb
theorem pick {α : Type} {l : List α} {g : α → V} {z : Int} (h0 : 0 ≤ z) (h : z < (l.length : Int)) : ∃ x, x ∈ l ∧ atI (l.map g) z = some (g x) := by
  have hk : z.toNat < l.length := by omega
  exact ⟨l[z.toNat], List.getElem_mem hk, at_of (j := z.toNat) (by omega) (by rw [List.getElem?_map, List.getElem?_eq_getElem hk] <;> rfl)⟩
end
end Mw

namespace Mw
open PySem L2
/-! ### what the law's messages are -/
def T.len : T → Nat
  | .nil => 0
  | .text _ r => r.len + 1
  | .shw _ r => r.len + 1
  | .num r => r.len + 1
  | .cho _ _ _ r => r.len + 1
  | .cas _ _ r => r.len + 1
def T.sz : T → Nat
  | .nil => 0
  | .text s r => 1 + s.length + r.sz
  | .shw _ r => 1 + r.sz
  | .num r => 1 + r.sz
  | .cho _ cs o r => 1 + cs.sz + o.sz + r.sz
  | .cas _ m r => 1 + m.sz + r.sz
def T.keys : T → List V
  | .cas k _ r => k :: r.keys
  | _ => []
def menu : List Str := ["", "a", "b", "1", "2"]
def wordsL : List Str := ["he", "she"]
def shows3 : List Str := ["n", "x", "w"]
def skeys : List V := wordsL.map V.str
def pkeys : List V := [.int 0, .int 1, .int 3, .str "one", .str "few", .str "many"]
def numsL : List Str := ["n", "n", "m"]
/-- a choice's head, and what stands within it: inside a plural or not, its keys -/
inductive HdOk : List V → Bool → Bool → List V → Prop where
  | sel {i : Bool} {ks : List V} (hk : ks.Sublist skeys) : HdOk [.str "select", .str "w"] i i ks
  | plu {n : Str} {off : Int} {i : Bool} {ks : List V} (hn : n ∈ numsL) (ho : off = 0 ∨ off = 1 ∨ off = 2) (hk : ks.Sublist pkeys) : HdOk [.str "plural", .str n, .int off] i true ks
/-- c: cases, not a message; d: so many levels of choices; i: inside a plural -/
def Gd : T → Bool → Nat → Bool → Prop
  | .nil, _, _, _ => True
  | .text s r, c, d, i => c = false ∧ s ∈ menu ∧ Gd r c d i
  | .shw n r, c, d, i => c = false ∧ n ∈ shows3 ∧ Gd r c d i
  | .num r, c, d, i => c = false ∧ i = true ∧ Gd r c d i
  | .cho hd cs o r, c, d, i => c = false ∧ (∃ e j, d = e + 1 ∧ HdOk hd i j cs.keys ∧ Gd cs true e j ∧ Gd o false e j) ∧ Gd r c d i
  | .cas _ m r, c, d, i => c = true ∧ Gd m false d i ∧ Gd r c d i
theorem T.app_len (u : T) : ∀ t : T, (t.app u).len = t.len + u.len
  | .nil => by simp [T.app, T.len]
  | .text _ r => by simp [T.app, T.len, T.app_len u r]; omega
  | .shw _ r => by simp [T.app, T.len, T.app_len u r]; omega
  | .num r => by simp [T.app, T.len, T.app_len u r]; omega
  | .cho _ _ _ r => by simp [T.app, T.len, T.app_len u r]; omega
  | .cas _ _ r => by simp [T.app, T.len, T.app_len u r]; omega
theorem T.app_sz (u : T) : ∀ t : T, (t.app u).sz = t.sz + u.sz
  | .nil => by simp [T.app, T.sz]
  | .text _ r => by simp [T.app, T.sz, T.app_sz u r]; omega
  | .shw _ r => by simp [T.app, T.sz, T.app_sz u r]; omega
  | .num r => by simp [T.app, T.sz, T.app_sz u r]; omega
  | .cho _ _ _ r => by simp [T.app, T.sz, T.app_sz u r]; omega
  | .cas _ _ r => by simp [T.app, T.sz, T.app_sz u r]; omega
theorem T.app_keys (k : V) (m u : T) : ∀ (t : T) (d : Nat) (i : Bool), Gd t true d i → (t.app (.cas k m u)).keys = t.keys ++ k :: u.keys
  | .nil, _, _, _ => rfl
  | .text _ r, _, _, h => by cases h.1
  | .shw _ r, _, _, h => by cases h.1
  | .num r, _, _, h => by cases h.1
  | .cho _ _ _ r, _, _, h => by cases h.1
  | .cas _ _ r, d, i, h => by simp [T.app, T.keys, T.app_keys k m u r d i h.2.2]
theorem Gd.app {u : T} {c : Bool} {d : Nat} {i : Bool} (hu : Gd u c d i) : ∀ {t : T}, Gd t c d i → Gd (t.app u) c d i
  | .nil, _ => hu
  | .text s r, h => ⟨h.1, h.2.1, Gd.app hu h.2.2⟩
  | .shw n r, h => ⟨h.1, h.2.1, Gd.app hu h.2.2⟩
  | .num r, h => ⟨h.1, h.2.1, Gd.app hu h.2.2⟩
  | .cho hd cs o r, h => ⟨h.1, h.2.1, Gd.app hu h.2.2⟩
  | .cas k m r, h => ⟨h.1, h.2.1, Gd.app hu h.2.2⟩
theorem Nodes.length {H : Hp} : ∀ {t : T} {vs : List V}, Nodes H t vs → vs.length = t.len
  | .nil, _, h => by
    have h' : _ = [] := h
    subst h'
    rfl
  | .text s r, _, h => by
    obtain ⟨p, ws, rfl, _, hr⟩ := h
    exact congrArg (· + 1) hr.length
  | .shw n r, _, h => by
    obtain ⟨p, ws, rfl, _, hr⟩ := h
    exact congrArg (· + 1) hr.length
  | .num r, _, h => by
    obtain ⟨p, ws, rfl, _, hr⟩ := h
    exact congrArg (· + 1) hr.length
  | .cho hd cs o r, _, h => by
    obtain ⟨p, ws, ca, cvs, oa, ovs, rfl, _, _, _, _, _, hr⟩ := h
    exact congrArg (· + 1) hr.length
  | .cas k m r, _, h => by
    obtain ⟨p, ws, ma, mvs, rfl, _, _, _, hr⟩ := h
    exact congrArg (· + 1) hr.length
/-- the sizes by levels -/
def nodeW : Nat → Nat
  | 0 => 4
  | d + 1 => 10 + 14 * nodeW d
def msgW (d : Nat) : Nat := 2 * nodeW d
theorem nodeW_ge : ∀ d, 4 ≤ nodeW d
  | 0 => Nat.le_refl _
  | d + 1 => by have := nodeW_ge d; show 4 ≤ 10 + 14 * nodeW d; omega
theorem menu_len {s : Str} (h : s ∈ menu) : s.length ≤ 1 := by
  have a : ∀ s ∈ menu, s.length ≤ 1 := by decide +kernel
  exact a s h
theorem sz_line {n : Nat} (h : n < 10000000) : n < sizeLine := Nat.lt_of_lt_of_le h (by decide)
theorem le_line {n : Nat} (h : n < 10000000) : n ≤ sizeLine := Nat.le_of_lt (sz_line h)
theorem int_eq {i j : Int} (h : V.int i = V.int j) : i = j := by cases h; rfl
theorem str_eq {i j : Str} (h : V.str i = V.str j) : i = j := by cases h; rfl
theorem cas_len : ∀ (t : T) (d : Nat) (j : Bool), Gd t true d j → t.len = t.keys.length := by
  intro t
  induction t with
  | cas k m r _ ih => intro d j h; simp [T.len, T.keys, ih d j h.2.2]
  | nil => intro d j h; rfl
  | _ => intro d j h; cases h.1
theorem dom1 {B l : Addr} {H H' : Hp} {o o' : HO} (g : Go B H H') (hl : H' l = some o') : ∀ c, H' c = none → upd H l o c = none := fun c hc => by
  rw [upd_ne (by rintro rfl; rw [hl] at hc; cases hc)]
  exact g.dom c hc
theorem take_mono {α : Type} {ys xs : List α} {i : Nat} (h : ys.Sublist (xs.take i)) : ys.Sublist (xs.take (i + 1)) :=
  h.trans (by rw [List.take_succ]; exact List.sublist_append_left _ _)
theorem args_m (B na : Addr) (e : Nat) (i : Bool) : [V.ref B, V.int (((e + 1 : Nat) : Int) - 1), V.bl i, V.ref na] = [V.ref B, V.int (e : Int), V.bl i, V.ref na] := by
  rw [show ((e + 1 : Nat) : Int) - 1 = (e : Int) by omega]
end Mw

namespace Mw
open PySem L2
/-! ### tests that come to a Bool, the heap as it is -/
theorem t_and {t u : TT} {σ : L2.St} {H : Hp} {Q : Bool → Hp → Prop} (a b : Bool) (ht : ∀ Q : Bool → Hp → Prop, Q a H → t σ H Q) (hu : a = true → ∀ Q : Bool → Hp → Prop, Q b H → u σ H Q) (q : Q (a && b) H) : tAnd t u σ H Q := by
  refine ht _ ?_
  cases a with
  | true => exact iteT (hu rfl _ q)
  | false => exact iteF q
theorem i_and {t u : TT} {tu tw : TS} {D : Ends} {σ : L2.St} {H : Hp} (a b : Bool) (ht : ∀ Q : Bool → Hp → Prop, Q a H → t σ H Q) (hu : a = true → ∀ Q : Bool → Hp → Prop, Q b H → u σ H Q) (q : if (a && b) = true then tu D σ H else tw D σ H) : tIfS (tAnd t u) tu tw D σ H :=
  t_and (Q := fun c H1 => if c = true then tu D σ H1 else tw D σ H1) a b ht hu q
/-! ### invariants of the builder -/
def MsgInv (B b na : Addr) (H H1 : Hp) (l : Addr) (d : Nat) (ins : Bool) (i : Nat) (σ : St) (H' : Hp) : Prop :=
  ∃ vs t o5 o6 o7 o8 o9, σ = [some (.ref B), some (.int d), some (.bl ins), some (.ref na), some (.ref l), o5, o6, o7, o8, o9, none] ∧ Go B H H' ∧ Box H' B b ∧ H' l = some (.lst vs) ∧ Nodes (fr H1 H') t vs ∧ Gd t false d ins ∧ t.sz ≤ i * nodeW d ∧ t.len ≤ i
theorem MsgInv.grow {B b na l p : Addr} {H H' H'' : Hp} {d : Nat} {ins : Bool} {i : Nat} {vs : List V} {t u : T} {o5 o6 o7 o8 o9 : Option V} {o : HO} (hl0 : H l = none) (hlB : l ≠ B) (hlb : l ≠ b) (hB : ∃ o, H B = some o)
    (g : Go B H H') (hl : H' l = some (.lst vs)) (hn : Nodes (fr (upd H l o) H') t vs) (hg : Gd t false d ins) (hs : t.sz ≤ i * nodeW d) (hlen : t.len ≤ i)
    (g2 : Go B H' H'') (hb : Box H'' B b) (hu : Nodes (fr (upd H l o) H'') u [.ref p]) (gu : Gd u false d ins) (su : u.sz ≤ nodeW d) (lu : u.len = 1) :
    MsgInv B b na H (upd H l o) l d ins (i + 1) [some (.ref B), some (.int d), some (.bl ins), some (.ref na), some (.ref l), o5, o6, o7, o8, o9, none] (upd H'' l (.lst (vs ++ [.ref p]))) := by
  obtain ⟨oB, hB⟩ := hB
  have hB1 : upd H l o B = some oB := by rw [upd_ne hlB.symm]; exact hB
  refine ⟨vs ++ [.ref p], t.app u, o5, o6, o7, o8, o9, rfl, (g.trans g2).mut hl0 _, hb.mut hlB hlb _, upd_same, ?_, Gd.app gu hg, ?_, ?_⟩
  · exact Nodes.same (fr_mut upd_same _) (Nodes.app hu (Nodes.same (fr_go hB1 g2) hn))
  · rw [T.app_sz, Nat.add_mul, Nat.one_mul]
    omega
  · rw [T.app_len]
    omega
def CasInv (B b l wl : Addr) (H H1 : Hp) (ks : List V) (e : Nat) (j : Bool) (i : Nat) (H' : Hp) : Prop :=
  ∃ vs t, Go B H H' ∧ Box H' B b ∧ H' wl = some (.lst ks) ∧ H' l = some (.lst vs) ∧ Nodes (fr H1 H') t vs ∧ Gd t true e j ∧ t.keys.Sublist (ks.take i) ∧ t.sz ≤ i * (1 + msgW e)
theorem CasInv.skip {B b l wl : Addr} {H H1 H' H'' : Hp} {ks : List V} {e : Nat} {j : Bool} {i : Nat} (h : CasInv B b l wl H H1 ks e j i H') (hlB : l ≠ B) (hwB : wl ≠ B) (hB : ∃ o, H1 B = some o) (g : Go B H' H'') (hb : Box H'' B b) : CasInv B b l wl H H1 ks e j i H'' := by
  obtain ⟨vs, t, g1, _, hw, hl, hn, hg, hk, hs⟩ := h
  obtain ⟨o, hB⟩ := hB
  exact ⟨vs, t, g1.trans g, hb, g.ext _ _ hwB hw, g.ext _ _ hlB hl, Nodes.same (fr_go hB g) hn, hg, hk, hs⟩
theorem CasInv.next {B b l wl : Addr} {H H1 H' : Hp} {ks : List V} {e : Nat} {j : Bool} {i : Nat} (h : CasInv B b l wl H H1 ks e j i H') : CasInv B b l wl H H1 ks e j (i + 1) H' := by
  obtain ⟨vs, t, g1, hb, hw, hl, hn, hg, hk, hs⟩ := h
  exact ⟨vs, t, g1, hb, hw, hl, hn, hg, take_mono hk, by rw [Nat.add_mul]; omega⟩
theorem CasInv.grow {B b l wl p r : Addr} {H H' H'' : Hp} {ks : List V} {e : Nat} {j : Bool} {i : Nat} {vs : List V} {t m : T} {k : V} {o : HO} (hl0 : H l = none) (hlB : l ≠ B) (hlb : l ≠ b) (hlw : wl ≠ l) (hwB : wl ≠ B) (hB : ∃ o, H B = some o)
    (g : Go B H H') (hl : H' l = some (.lst vs)) (hw : H' wl = some (.lst ks)) (hn : Nodes (fr (upd H l o) H') t vs) (hg : Gd t true e j) (hs : t.sz ≤ i * (1 + msgW e)) (hk : t.keys.Sublist (ks.take i)) (hki : ks[i]? = some k)
    (g2 : Go B H' H'') (hb : Box H'' B b) (hr : At (fr H' H'') r m) (gm : Gd m false e j) (sm : m.sz ≤ msgW e) (hp : H'' p = none) :
    CasInv B b l wl H (upd H l o) ks e j (i + 1) (upd (upd H'' p (.tup [k, .ref r])) l (.lst (vs ++ [.ref p]))) := by
  obtain ⟨oB, hB⟩ := hB
  have hB1 : upd H l o B = some oB := by rw [upd_ne hlB.symm]; exact hB
  have hl2 : H'' l = some (.lst vs) := g2.ext _ _ hlB hl
  have hw2 : H'' wl = some (.lst ks) := g2.ext _ _ hwB hw
  have hp1 : upd H l o p = none := dom1 (g.trans g2) hl2 p hp
  have s3 : Same H'' (upd H'' p (.tup [k, .ref r])) := same_new hp _
  have hu : Nodes (fr (upd H l o) (upd H'' p (.tup [k, .ref r]))) (.cas k m .nil) [.ref p] := by
    obtain ⟨ws, hr1, hr2⟩ := hr
    have sd : Same (fr H' H'') (fr (upd H l o) (upd H'' p (.tup [k, .ref r]))) := Same.trans (fr_dom (dom1 g hl)) (fr_same s3)
    exact ⟨p, [], r, ws, rfl, by rw [fr_new hp1]; exact upd_same, sd _ _ hr1, Nodes.same sd hr2, rfl⟩
  refine ⟨vs ++ [.ref p], t.app (.cas k m .nil), ((g.trans g2).trans (Go.new hp _)).mut hl0 _, (hb.new hp _).mut hlB hlb _, ?_, upd_same, ?_, ?_, ?_, ?_⟩
  · rw [upd_ne hlw]
    exact s3 _ _ hw2
  · exact Nodes.same (fr_mut upd_same _) (Nodes.app hu (Nodes.same (fr_same s3) (Nodes.same (fr_go hB1 g2) hn)))
  · exact Gd.app (show Gd (.cas k m .nil) true e j from ⟨rfl, gm, trivial⟩) hg
  · rw [T.app_keys k m .nil t e j hg, List.take_succ, hki]
    exact hk.append (List.Sublist.refl _)
  · rw [T.app_sz, Nat.add_mul, Nat.one_mul]
    have : (T.cas k m .nil).sz = 1 + m.sz := by simp [T.sz]
    omega
/-- a new node: a choice -/
def NodeAt (H H' : Hp) (p : Addr) (d : Nat) (i : Bool) : Prop := ∃ hd cs o, Nodes (fr H H') (.cho hd cs o .nil) [.ref p] ∧ Gd (.cho hd cs o .nil) false d i ∧ (T.cho hd cs o .nil).sz ≤ nodeW d
/-- the choice at the end -/
theorem cho_end {B l r p : Addr} {H H' H'' : Hp} {hd : List V} {e : Nat} {i j : Bool} {vs : List V} {t o : T} {ol : HO} (hl0 : H l = none) (hlB : l ≠ B) (hB : ∃ o, H B = some o)
    (g : Go B H H') (hl : H' l = some (.lst vs)) (hn : Nodes (fr (upd H l ol) H') t vs) (hg : Gd t true e j) (hs : t.sz ≤ 6 * (1 + msgW e))
    (g2 : Go B H' H'') (hr : At (fr H' H'') r o) (go : Gd o false e j) (so : o.sz ≤ msgW e) (hp : H'' p = none) (hh : HdOk hd i j t.keys) :
    NodeAt H (upd H'' p (.tup (hd ++ [.ref l, .ref r]))) p (e + 1) i := by
  obtain ⟨oB, hB⟩ := hB
  have hB1 : upd H l ol B = some oB := by rw [upd_ne hlB.symm]; exact hB
  have hl2 : H'' l = some (.lst vs) := g2.ext _ _ hlB hl
  have s3 : Same H'' (upd H'' p (.tup (hd ++ [.ref l, .ref r]))) := same_new hp _
  have hp0 : H p = none := (g.trans g2).dom p hp
  obtain ⟨ws, hr1, hr2⟩ := hr
  have sd : Same (fr H' H'') (fr H (upd H'' p (.tup (hd ++ [.ref l, .ref r])))) := Same.trans (fr_dom g.dom) (fr_same s3)
  refine ⟨hd, t, o, ⟨p, [], l, vs, r, ws, rfl, by rw [fr_new hp0]; exact upd_same, ?_, ?_, sd _ _ hr1, Nodes.same sd hr2, rfl⟩, ⟨rfl, ⟨e, j, rfl, hh, hg, go⟩, trivial⟩, ?_⟩
  · rw [fr_new hl0]
    exact s3 _ _ hl2
  · exact Nodes.same (Same.trans (fr_go hB1 g2) (Same.trans (fr_dom fun c hc => upd_none hc) (fr_same s3))) hn
  · show 1 + t.sz + o.sz + 0 ≤ 10 + 14 * nodeW e
    have e1 : msgW e = 2 * nodeW e := rfl
    rw [e1] at hs so
    omega
theorem NodeAt.mono {H0 H1 H : Hp} {p : Addr} {d : Nat} {i : Bool} (h : NodeAt H1 H p d i) (g : ∀ b, H1 b = none → H0 b = none) : ∃ hd cs o, Nodes (fr H0 H) (.cho hd cs o .nil) [.ref p] ∧ Gd (.cho hd cs o .nil) false d i ∧ (T.cho hd cs o .nil).sz ≤ nodeW d := by
  obtain ⟨hd, cs, o, h1, h2, h3⟩ := h
  exact ⟨hd, cs, o, Nodes.same (fr_dom g) h1, h2, h3⟩
section
variable {P : Program} {w : World} {K : PySem.W.Frag} {mg : Str → Option Value} {base : Heap}
theorem none_left {k : Nat} {f : Addr} {fd : FuncData} {ps : List Str} {sp : Sp} (no : ∀ vs H Q E, ¬ sp vs H Q E) : FnOk P w K mg base CX0 k f fd ps sp :=
  ⟨fun vs H Q E h => absurd h (no _ _ _ _), fun _ _ _ _ _ _ _ _ _ _ _ _ _ h => absurd h (no _ _ _ _)⟩
abbrev sMsg : Stmt := top 45
abbrev nMsg : List Str := ["box", "depth", "inside", "numbers", "found", "turn", "kind", "cases", "key", "name", "word"]
theorem scMsg : FnScope nMsg ["box", "depth", "inside", "numbers"] (defScope sMsg) := ⟨rfl, rfl, rfl, by decide +kernel, rfl, by decide +kernel, by decide +kernel⟩
/-- a new message of at most d levels -/
def spMsg (d : Nat) : Sp := fun vs H Q _ => ∃ (B b na : Addr) (i : Bool), vs = [.ref B, .int d, .bl i, .ref na] ∧ Box H B b ∧ H na = some (.lst (numsL.map V.str)) ∧
  ∀ r H' t, Go B H H' → Box H' B b → At (fr H H') r t → Gd t false d i → t.sz ≤ msgW d → t.len ≤ 2 → Q (.ref r) H'
def spMsgP (d : Nat) : Sp := fun vs H Q E => ∃ e, d = e + 1 ∧ spMsg e vs H Q E
end
end Mw

namespace Mw
open PySem L2
section
variable {P : Program} {w : World} {K : PySem.W.Frag} {mg : Str → Option Value} {base : Heap}
theorem na_ne {H : Hp} {B b na : Addr} (hb : Box H B b) (hna : H na = some (.lst (numsL.map V.str))) : na ≠ B := by
  rintro rfl
  obtain ⟨ds, i, h, _⟩ := hb
  rw [hna] at h
  have h' : V.str "n" = V.ref b := by
    have := congrArg (fun o => match o with | some (HO.lst (x :: _)) => x | _ => V.non) h
    exact this
  cases h'
abbrev rGt0 : R2 := rI0 fun i j => .bl (decide (j < i))
abbrev rSub0 : R2 := rI0 fun i j => .int (i - j)
theorem ok_msg {k d : Nat} {f fD fM : Addr} {fd fdD fdM : FuncData} (hk : 1 ≤ k) (F : Fun K "_law_message" "_law_message" sMsg f fd)
    (GD : FnOk P w K mg base CX0 1 fD fdD ["box", "many"] spDraw) (bD : Binds K fdD ["box", "many"] []) (kD : PySem.W.keepIn K (.ref fD) = true) (mD : mg "_law_draw" = some (.ref fD))
    (GM : FnOk P w K mg base CX0 k fM fdM ["box", "depth", "inside", "numbers"] (spMsgP d)) (bM : Binds K fdM ["box", "depth", "inside", "numbers"] []) (kM : PySem.W.keepIn K (.ref fM) = true) (mM : mg "_law_message" = some (.ref fM))
    (mr : mg "range" = none) (ml : mg "len" = none) (mi : mg "int" = none) : FnOk P w K mg base CX0 (k + 1) f fd ["box", "depth", "inside", "numbers"] (spMsg d) := by
  have GM1 : ∀ e, d = e + 1 → FnOk P w K mg base CX0 k fM fdM ["box", "depth", "inside", "numbers"] (spMsg e) := fun e he => GM.imp fun vs H Q E h => ⟨e, he, h⟩
  refine F.ok scMsg (fun vs H Q E h => ?_) (fun cdv A outer s H vs Q E hr h => ?_)
  · obtain ⟨B, b, na, i, rfl, _⟩ := h
    rfl
  obtain ⟨B, b, na, ins, rfl, hb, hna, q⟩ := h
  have nd := scMsg.nd
  have hr1 : Room 1 _ := hr.mono hk
  have naB := na_ne hb hna
  refine ⟨_, (pss_cons (ps_set (i := 4) nd rfl (.inl rfl) (pe_lst pa_nil))
      (pss_cons (ps_for PassesOwn.never rfl (pi_range1 rfl mr (pa_cons (pe_op op_add pe_int (pe_call GD hr1 rfl mD kD bD .nil pass0 (pa_cons (pv 0) (pa_cons pe_int pa_nil)))) pa_nil)) (pg_name (i := 5) nd rfl (.inl rfl)) (pss_cons (ps_set (i := 6) nd rfl (.inl rfl) (pe_call GD hr1 rfl mD kD bD .nil pass0 (pa_cons (pv 0) (pa_cons pe_int pa_nil))))
      (pss_one (ps_if (PW.pt (pw_and (pt_cmpR op_gt (pv 1) pe_int (nomark _)) (pw_and1 (pt_cmpR op_lt (pv 6) pe_int (nomark _))))) (pss_cons (ps_setLc (i := 7) (own := [("word", 10)]) (g := (gName 10))  (tt := tTest (tOp rGt0 (tCall spDraw [] E0 (tCons (tVar 0) (tCons (tC (.int 3)) tNil))) (tC (.int 0))))
            (te := tTup (tCons (tVar 10) (tCons (tCall (spMsgP d) [] E0 (tCons (tVar 0) (tCons (tOp rSub0 (tVar 1) (tC (.int 1))) (tCons (tVar 2) (tCons (tVar 3) tNil))))) tNil))) rfl nd rfl rfl (sw_true rfl rfl rfl (by decide +kernel)) (pi_list (pe_lst (pa_cons pe_str (pa_cons pe_str pa_nil)))) (blkOk_by (N := nMsg) (sc := defScope sMsg) (by decide +kernel)) (fun _ _ _ _ _ => (pg_name (i := 10) nd rfl (.inl rfl))) (fun _ _ _ _ _ => (pts_one (pt_cmpR op_gt (pe_call GD hr1 rfl mD kD bD .nil pass0 (pa_cons (pv 0) (pa_cons pe_int pa_nil))) pe_int (nomark _)))) (fun _ _ _ _ _ => (pe_tup (pa_cons (pv 10) (pa_cons (pe_call GM hr rfl mM kM bM .nil pass0 (pa_cons (pv 0) (pa_cons (pe_op op_sub (pv 1) pe_int) (pa_cons (pv 2) (pa_cons (pv 3) pa_nil))))) pa_nil)))))
      (pss_one (ps_expr (pe_bm PySem.F.plainAttrs_list PySem.F.slot_list_append PySem.F.type_list_append mt_append (pv 4) (pa_cons (pe_tup (pa_cons pe_str (pa_cons pe_str (pa_cons (pv 7) (pa_cons (pe_call GM hr rfl mM kM bM .nil pass0 (pa_cons (pv 0) (pa_cons (pe_op op_sub (pv 1) pe_int) (pa_cons (pv 2) (pa_cons (pv 3) pa_nil))))) pa_nil))))) pa_nil))))) (pss_one (ps_if (PW.pt (pw_and (pt_cmpR op_gt (pv 1) pe_int (nomark _)) (pw_and1 (pt_cmpR op_lt (pv 6) pe_int (nomark _))))) (pss_cons (ps_set (i := 7) nd rfl (.inl rfl) (pe_lst pa_nil))
      (pss_cons (ps_for PassesOwn.never rfl (pi_list (pe_lst (pa_cons pe_int (pa_cons pe_int (pa_cons pe_int (pa_cons pe_str (pa_cons pe_str (pa_cons pe_str pa_nil)))))))) (pg_name (i := 8) nd rfl (.inl rfl)) (pss_one (ps_if (pt_cmpR op_eq (pe_call GD hr1 rfl mD kD bD .nil pass0 (pa_cons (pv 0) (pa_cons pe_int pa_nil))) pe_int (nomark _)) (pss_one (ps_expr (pe_bm PySem.F.plainAttrs_list PySem.F.slot_list_append PySem.F.type_list_append mt_append (pv 7) (pa_cons (pe_tup (pa_cons (pv 8) (pa_cons (pe_call GM hr rfl mM kM bM .nil pass0 (pa_cons (pv 0) (pa_cons (pe_op op_sub (pv 1) pe_int) (pa_cons pe_bl (pa_cons (pv 3) pa_nil))))) pa_nil))) pa_nil)))) pss_nil)))
      (pss_cons (ps_set (i := 9) nd rfl (.inl rfl) (pe_ix ix_list (pv 3) (pe_op op_mod (pe_callTy call_int1 (by rfl) mi (by decide +kernel) (pa_cons (pe_call GD hr1 rfl mD kD bD .nil pass0 (pa_cons (pv 0) (pa_cons pe_int pa_nil))) pa_nil)) (pe_callB call_len_seq (by rfl) ml PySem.boot_len (pa_cons (pv 3) pa_nil))) (fun _ _ => rfl)))
      (pss_one (ps_expr (pe_bm PySem.F.plainAttrs_list PySem.F.slot_list_append PySem.F.type_list_append mt_append (pv 4) (pa_cons (pe_tup (pa_cons pe_str (pa_cons (pv 9) (pa_cons (pe_ix ix_list (pe_lst (pa_cons pe_int (pa_cons pe_int (pa_cons pe_int (pa_cons pe_int pa_nil))))) (pe_call GD hr1 rfl mD kD bD .nil pass0 (pa_cons (pv 0) (pa_cons pe_int pa_nil))) (fun _ _ => rfl)) (pa_cons (pv 7) (pa_cons (pe_call GM hr rfl mM kM bM .nil pass0 (pa_cons (pv 0) (pa_cons (pe_op op_sub (pv 1) pe_int) (pa_cons pe_bl (pa_cons (pv 3) pa_nil))))) pa_nil)))))) pa_nil))))))) (pss_one (ps_if (PW.pt (pw_and (pt_cmpR op_eq (pv 6) pe_int (nomark _)) (pw_and1 (pt_val (pv 2))))) (pss_one (ps_expr (pe_bm PySem.F.plainAttrs_list PySem.F.slot_list_append PySem.F.type_list_append mt_append (pv 4) (pa_cons (pe_tup (pa_cons pe_str pa_nil)) pa_nil)))) (pss_one (ps_if (pt_cmpR op_eq (pv 6) pe_int (nomark _)) (pss_one (ps_expr (pe_bm PySem.F.plainAttrs_list PySem.F.slot_list_append PySem.F.type_list_append mt_append (pv 4) (pa_cons (pe_tup (pa_cons pe_str (pa_cons (pe_ix ix_list (pe_lst (pa_cons pe_str (pa_cons pe_str (pa_cons pe_str pa_nil)))) (pe_call GD hr1 rfl mD kD bD .nil pass0 (pa_cons (pv 0) (pa_cons pe_int pa_nil))) (fun _ _ => rfl)) pa_nil))) pa_nil)))) (pss_one (ps_expr (pe_bm PySem.F.plainAttrs_list PySem.F.slot_list_append PySem.F.type_list_append mt_append (pv 4) (pa_cons (pe_tup (pa_cons pe_str (pa_cons (pe_ix ix_list (pe_lst (pa_cons pe_str (pa_cons pe_str (pa_cons pe_str (pa_cons pe_str (pa_cons pe_str pa_nil)))))) (pe_call GD hr1 rfl mD kD bD .nil pass0 (pa_cons (pv 0) (pa_cons pe_int pa_nil))) (fun _ _ => rfl)) pa_nil))) pa_nil))))))))))))))
      (pss_one (ps_ret (pv 4))))), ?_⟩
  refine ⟨Nat.zero_le _, fun l hl => ?_⟩
  have hlB := hb.neB hl
  have hlb := hb.neD hl
  have hBs := hb.isB
  have nal : na ≠ l := ne_of_none hna hl
  refine ⟨_, rfl, B, b, 2, rfl, by decide, hb.new hl _, fun z H2 z0 z2 g2 hb2 => ⟨_, _, rfl, rfl, ?_⟩⟩
  refine ⟨1 + z, rfl, by omega, by omega, for_range (lo := 0) (n := (1 + z).toNat) (MsgInv B b na H (upd H l (.lst [])) l d ins) ⟨[], .nil, none, none, none, none, none, rfl, (Go.new hl _).trans g2, hb2, g2.ext _ _ hlB upd_same, rfl, trivial, Nat.zero_le _, Nat.le_refl _⟩ ?_ ?_⟩
  rotate_left
  · rintro σ H' ⟨vs, t, o5, o6, o7, o8, o9, rfl, g, hb', hl', hn, hg, hs, hlen⟩
    refine ⟨_, rfl, q l H' t g hb' ⟨vs, ?_, ?_⟩ hg ?_ (by omega)⟩
    · rw [fr_new hl]
      exact hl'
    · exact Nodes.same (fr_dom fun c hc => upd_none hc) hn
    · have : (1 + z).toNat * nodeW d ≤ 2 * nodeW d := Nat.mul_le_mul_right _ (by omega)
      exact Nat.le_trans hs this
  rintro i σ H' hi ⟨vs, t, o5, o6, o7, o8, o9, rfl, g, hb', hl', hn, hg, hs, hlen⟩
  have hvs : vs.length < 1000 := by
    rw [hn.length]
    omega
  refine ⟨_, rfl, B, b, 8, rfl, by decide, hb', fun kind H3 k0 k8 g3 hb3 => ?_⟩
  have hl3 : H3 l = some (.lst vs) := g3.ext _ _ hlB hl'
  have g03 := g.trans g3
  have hna3 : H3 na = some (.lst (numsL.map V.str)) := g03.ext _ _ naB hna
  have hB1 : ∃ o, upd H l (HO.lst []) B = some o := by
    obtain ⟨o, h⟩ := hBs
    exact ⟨o, by rw [upd_ne hlB.symm]; exact h⟩
  have hn3 : Nodes (fr (upd H l (.lst [])) H3) t vs := by
    obtain ⟨o, h⟩ := hB1
    exact Nodes.same (fr_go h g3) hn
  have hBs3 := hb3.isB
  dsimp only [gName]
  refine i_and (decide (0 < (d : Int))) (decide (kind < 2)) (fun Q q => ⟨_, rfl, _, _, rfl, rfl, _, rfl, q⟩) (fun _ Q q => ⟨_, rfl, _, _, rfl, rfl, _, rfl, q⟩) ?_
  refine ite2 (fun c => ?_) (fun c => i_and (decide (0 < (d : Int))) (decide (kind < 5)) (fun Q q => ⟨_, rfl, _, _, rfl, rfl, _, rfl, q⟩) (fun _ Q q => ⟨_, rfl, _, _, rfl, rfl, _, rfl, q⟩) (ite2 (fun c2 => ?_) (fun c2 => i_and (decide (V.int kind = V.int 5)) ins (fun Q q => ⟨_, rfl, rfl, _, rfl, q⟩) (fun _ Q q => ⟨_, rfl, _, rfl, q⟩) (ite2 (fun c3 => ?_) (fun c3 => ⟨_, rfl, rfl, _, rfl, ite2 (fun c4 => ?_) (fun c4 => ?_)⟩)))))
  · -- a select
    obtain ⟨e, rfl⟩ : ∃ e, d = e + 1 := by
      cases d with
      | zero => exact absurd c (by simp)
      | succ e => exact ⟨e, rfl⟩
    refine ⟨by show 2 ≤ sizeLine; decide, fun wl hwl => ?_⟩
    generalize hH4 : upd H3 wl (.lst skeys) = H4
    have hw4 : H4 wl = some (.lst skeys) := by rw [← hH4]; exact upd_same
    have g34 : Go B H3 H4 := by rw [← hH4]; exact Go.new hwl _
    have b4 : Box H4 B b := by rw [← hH4]; exact hb3.new hwl _
    have d43 : ∀ c, H4 c = none → H3 c = none := g34.dom
    have wlB := hb3.neB hwl
    rw [show upd H3 wl (HO.lst [V.str "he", V.str "she"]) = H4 from hH4]
    refine ⟨wl, rfl, ⟨_, SqL.of hw4⟩, fun D hD => ?_⟩
    have DB := b4.neB hD
    have Db := b4.neD hD
    have wD : wl ≠ D := ne_of_none hw4 hD
    have hB4 := b4.isB
    have hB4' : ∃ o, upd H4 D (HO.lst []) B = some o := by
      obtain ⟨o, h⟩ := hB4
      exact ⟨o, by rw [upd_ne DB.symm]; exact h⟩
    refine lc_list (K := K) (a := wl) (xs := skeys) (fun i H' => CasInv B b D wl H4 (upd H4 D (.lst [])) skeys e ins i H')
      ⟨[], .nil, Go.new hD _, b4.new hD _, by rw [upd_ne wD]; exact hw4, upd_same, rfl, trivial, List.nil_sublist _, Nat.zero_le _⟩ (fun i H' _ ⟨_, _, _, _, hw, _⟩ => SqL.of hw) ?_ ?_
    · rintro j x H5 hx I
      obtain ⟨vs0, t0, _, hbI, _⟩ := id I
      refine ⟨rfl, _, rfl, B, b, 3, rfl, by decide, hbI, fun z H6 z0 z3 g6 b6 => ⟨_, _, rfl, rfl, _, rfl, ?_⟩⟩
      have I6 := I.skip DB wlB hB4' g6 b6
      refine ite2 (fun c => ?_) (fun c => I6.next)
      obtain ⟨cvs, ct, g1, _, hw, hl6, hcn, hcg, hks, hcs⟩ := I6
      have hna6 := g1.ext _ _ naB (g34.ext _ _ naB hna3)
      refine ⟨_, rfl, _, rfl, _, rfl, _, _, rfl, rfl, _, rfl, _, rfl, e, rfl, B, b, na, ins, args_m B na e ins, b6, hna6, fun r H7 m g7 b7 hr7 gm sm _ => ⟨by show 2 ≤ sizeLine; decide, fun p hp => ?_⟩⟩
      have hD7 : H7 D = some (.lst cvs) := g7.ext _ _ DB hl6
      refine ⟨cvs, by rw [upd_ne (ne_of_none hD7 hp)]; exact hD7, sz_line ?_, CasInv.grow hD DB Db wD wlB hB4 g1 hl6 hw hcn hcg hcs hks hx g7 b7 hr7 gm sm hp⟩
      rw [hcn.length, cas_len ct e ins hcg]
      have := hks.length_le
      rw [List.length_take] at this
      have : skeys.length = 2 := rfl
      omega
    · rintro H5 ⟨cvs, ct, g1, b5, hw, hl5, hcn, hcg, hks, hcs⟩
      have g35 := g34.trans g1
      have hl5' := g35.ext _ _ hlB hl3
      have sk : ct.keys.Sublist skeys := by
        have : skeys.take skeys.length = skeys := List.take_length
        rw [this] at hks
        exact hks
      refine ⟨_, rfl, .inl ⟨rfl, _, SqL.of hl5'⟩, _, rfl, _, rfl, _, rfl, _, _, rfl, rfl, _, rfl, _, rfl, e, rfl, B, b, na, ins, args_m B na e ins, b5, g35.ext _ _ naB hna3, fun r H6 o g6 b6 hr6 go so _ => ⟨by show 4 ≤ sizeLine; decide, fun p hp => ?_⟩⟩
      have N := (cho_end (hd := [.str "select", .str "w"]) (i := ins) hD DB hB4 g1 hl5 hcn hcg (Nat.le_trans hcs (Nat.mul_le_mul_right _ (by decide))) g6 hr6 go so hp (.sel sk)).mono (H0 := upd H l (.lst [])) fun c hc => dom1 g03 hl3 c (d43 c hc)
      obtain ⟨hd', cs', o', n1, n2, n3⟩ := N
      have hl6 : H6 l = some (.lst vs) := g6.ext _ _ hlB hl5'
      refine ⟨l, _, _, rfl, rfl, (by rw [upd_ne (ne_of_none hl6 hp)]; exact hl6), sz_line (by omega), ?_⟩
      exact MsgInv.grow hl hlB hlb hBs g03 hl3 hn3 hg hs hlen ((g35.trans g6).trans (Go.new hp _)) (b6.new hp _) n1 n2 n3 rfl
  · -- a plural
    obtain ⟨e, rfl⟩ : ∃ e, d = e + 1 := by
      cases d with
      | zero => exact absurd c2 (by simp)
      | succ e => exact ⟨e, rfl⟩
    refine ⟨Nat.zero_le _, fun l2 hl2 => ⟨by show 6 ≤ sizeLine; decide, fun wl hwl => ?_⟩⟩
    have l2B := hb3.neB hl2
    have l2b := hb3.neD hl2
    have b4 := hb3.new hl2 (.lst [])
    have wlB := b4.neB hwl
    have wl2 : wl ≠ l2 := (ne_of_none upd_same hwl).symm
    have hB3' : ∃ o, upd H3 l2 (HO.lst []) B = some o := by
      obtain ⟨o, h⟩ := hBs3
      exact ⟨o, by rw [upd_ne l2B.symm]; exact h⟩
    refine ⟨wl, rfl, ⟨_, SqL.of upd_same⟩, for_list (K := K) (a := wl) (xs := pkeys) (fun j σ H' => ∃ o8, σ = [some (.ref B), some (.int ((e + 1 : Nat) : Int)), some (.bl ins), some (.ref na), some (.ref l), some (.int (0 + i)), some (.int kind), some (.ref l2), o8, o9, none] ∧ CasInv B b l2 wl H3 (upd H3 l2 (.lst [])) pkeys e true j H')
      ⟨o8, rfl, [], .nil, (Go.new hl2 _).trans (Go.new hwl _), b4.new hwl _, upd_same, by rw [upd_ne wl2.symm]; exact upd_same, rfl, trivial, List.nil_sublist _, Nat.zero_le _⟩
      (fun i σ H' _ ⟨_, _, _, _, _, _, hw, _⟩ => SqL.of hw) ?_ ?_⟩
    · rintro j x σ H5 hx ⟨o8', rfl, I⟩
      obtain ⟨vs0, t0, _, hbI, _⟩ := id I
      refine ⟨_, rfl, B, b, 4, rfl, by decide, hbI, fun z H6 z0 z3 g6 b6 => ⟨rfl, _, rfl, ?_⟩⟩
      have I6 := I.skip l2B wlB hB3' g6 b6
      refine ite2 (fun c => ?_) (fun c => ⟨_, rfl, I6.next⟩)
      obtain ⟨cvs, ct, g1, _, hw, hl6, hcn, hcg, hks, hcs⟩ := I6
      have hj : j < 6 := (List.getElem?_eq_some_iff.mp hx).1
      have hcl : cvs.length < 1000 := by
        rw [hcn.length, cas_len ct e true hcg]
        have := hks.length_le
        rw [List.length_take] at this
        omega
      refine ⟨_, rfl, .inl ⟨rfl, _, SqL.of hl6⟩, _, rfl, _, rfl, _, rfl, _, _, rfl, rfl, _, rfl, e, rfl, B, b, na, true, args_m B na e true, b6, g1.ext _ _ naB hna3, fun r H7 m g7 b7 hr7 gm sm _ => ⟨by show 2 ≤ sizeLine; decide, fun p hp => ?_⟩⟩
      have hl7 : H7 l2 = some (.lst cvs) := g7.ext _ _ l2B hl6
      refine ⟨l2, _, _, rfl, rfl, (by rw [upd_ne (ne_of_none hl7 hp)]; exact hl7), sz_line (by omega), ?_⟩
      exact ⟨_, rfl, CasInv.grow hl2 l2B l2b wl2 wlB hBs3 g1 hl6 hw hcn hcg hcs hks hx g7 b7 hr7 gm sm hp⟩
    · rintro σ H5 ⟨o8', rfl, cvs, ct, g1, b5, hw, hl5, hcn, hcg, hks, hcs⟩
      have sk : ct.keys.Sublist pkeys := by
        have : pkeys.take pkeys.length = pkeys := List.take_length
        rw [this] at hks
        exact hks
      have hl5' := g1.ext _ _ hlB hl3
      have hna5 := g1.ext _ _ naB hna3
      refine ⟨_, rfl, _, rfl, B, b, 900, rfl, by decide, b5, fun z H6 z0 z9 g6 b6 => .inl ⟨_, rfl, ?_⟩⟩
      have hna6 := g6.ext _ _ naB hna5
      refine ⟨_, rfl, na, _, rfl, .inl (SqL.of hna6), _, _, rfl, rfl, (by show (0 : Int) < ((3 : Nat) : Int); decide), ?_⟩
      obtain ⟨nm, hnm, hnt⟩ := pick (l := numsL) (g := V.str) (z := z % 3) (Int.emod_nonneg _ (by decide)) (Int.emod_lt_of_pos _ (by decide))
      refine ⟨na, _, z % 3, .str nm, rfl, rfl, SqL.of hna6, hnt, ?_⟩
      have hl6' := g6.ext _ _ hlB hl5'
      refine ⟨_, rfl, .inl ⟨rfl, _, SqL.of hl6'⟩, _, rfl, by decide, fun ml hml => ?_⟩
      have mlB := b6.neB hml
      refine ⟨_, rfl, B, b, 4, rfl, by decide, b6.new hml _, fun z' H7 z0' z9' g7 b7 => ?_⟩
      obtain ⟨y, hy, hyt⟩ := pick (l := ([0, 0, 1, 2] : List Int)) (g := V.int) z0' (by show z' < ((4 : Nat) : Int); omega)
      refine ⟨ml, _, z', .int y, rfl, rfl, SqL.of (g7.ext _ _ mlB upd_same), hyt, ?_⟩
      have g57 : Go B H5 H7 := (g6.trans (Go.new hml _)).trans g7
      have g17 := g1.trans g57
      refine ⟨_, rfl, _, rfl, _, rfl, _, _, rfl, rfl, _, rfl, e, rfl, B, b, na, true, args_m B na e true, b7, g17.ext _ _ naB hna3, fun r H8 o g8 b8 hr8 go so _ => ⟨by show 5 ≤ sizeLine; decide, fun p hp => ?_⟩⟩
      have hl7 : H7 l2 = some (.lst cvs) := g57.ext _ _ l2B hl5
      have hcn7 : Nodes (fr (upd H3 l2 (.lst [])) H7) ct cvs := by
        obtain ⟨o, h⟩ := hB3'
        exact Nodes.same (fr_go h g57) hcn
      have N := (cho_end (hd := [.str "plural", .str nm, .int y]) (i := ins) hl2 l2B hBs3 g17 hl7 hcn7 hcg hcs g8 hr8 go so hp (.plu hnm (by simpa using hy) sk)).mono (H0 := upd H l (.lst [])) fun c hc => dom1 g03 hl3 c hc
      obtain ⟨hd', cs', o', n1, n2, n3⟩ := N
      have hl8 : H8 l = some (.lst vs) := (g17.trans g8).ext _ _ hlB hl3
      refine ⟨l, _, _, rfl, rfl, (by rw [upd_ne (ne_of_none hl8 hp)]; exact hl8), sz_line (by omega), ?_⟩
      exact MsgInv.grow hl hlB hlb hBs g03 hl3 hn3 hg hs hlen ((g17.trans g8).trans (Go.new hp _)) (b8.new hp _) n1 n2 n3 rfl
  · -- number
    have hi : ins = true := by
      cases ins with
      | true => rfl
      | false => exact absurd c3 (by simp)
    refine ⟨_, rfl, .inl ⟨rfl, _, SqL.of hl3⟩, by show 1 ≤ sizeLine; decide, fun p hp => ?_⟩
    have hp1 : upd H l (HO.lst []) p = none := dom1 g03 hl3 p hp
    refine ⟨l, _, _, rfl, rfl, (by rw [upd_ne (ne_of_none hl3 hp)]; exact hl3), sz_line (by omega), ?_⟩
    exact MsgInv.grow (u := .num .nil) hl hlB hlb hBs g03 hl3 hn3 hg hs hlen (Go.new hp _) (hb3.new hp _) ⟨p, [], rfl, by rw [fr_new hp1]; exact upd_same, rfl⟩ ⟨rfl, hi, trivial⟩
      (by have := nodeW_ge d; show 1 + 0 ≤ _; omega) rfl
  · -- show
    refine ⟨_, rfl, .inl ⟨rfl, _, SqL.of hl3⟩, by decide, fun m hm => ?_⟩
    have hmB := hb3.neB hm
    refine ⟨_, rfl, B, b, 3, rfl, by decide, hb3.new hm _, fun z' H4 z0' z4' g4 hb4 => ?_⟩
    obtain ⟨x, hx, ha⟩ := pick (l := shows3) (g := V.str) z0' (by show z' < ((3 : Nat) : Int); omega)
    refine ⟨m, _, z', .str x, rfl, rfl, SqL.of (g4.ext _ _ hmB upd_same), ha, by show 2 ≤ sizeLine; decide, fun p hp => ?_⟩
    have g34 : Go B H3 H4 := (Go.new hm _).trans g4
    have hl4 : H4 l = some (.lst vs) := g34.ext _ _ hlB hl3
    have hp1 : upd H l (HO.lst []) p = none := dom1 (g03.trans g34) hl4 p hp
    refine ⟨l, _, _, rfl, rfl, (by rw [upd_ne (ne_of_none hl4 hp)]; exact hl4), sz_line (by omega), ?_⟩
    exact MsgInv.grow (u := .shw x .nil) hl hlB hlb hBs g03 hl3 hn3 hg hs hlen (g34.trans (Go.new hp _)) (hb4.new hp _) ⟨p, [], rfl, by rw [fr_new hp1]; exact upd_same, rfl⟩ ⟨rfl, hx, trivial⟩
      (by have := nodeW_ge d; show 1 + 0 ≤ _; omega) rfl
  · -- text
    refine ⟨_, rfl, .inl ⟨rfl, _, SqL.of hl3⟩, by decide, fun m hm => ?_⟩
    have hmB := hb3.neB hm
    refine ⟨_, rfl, B, b, 5, rfl, by decide, hb3.new hm _, fun z' H4 z0' z4' g4 hb4 => ?_⟩
    obtain ⟨x, hx, ha⟩ := pick (l := menu) (g := V.str) z0' (by show z' < ((5 : Nat) : Int); omega)
    refine ⟨m, _, z', .str x, rfl, rfl, SqL.of (g4.ext _ _ hmB upd_same), ha, by show 2 ≤ sizeLine; decide, fun p hp => ?_⟩
    have g34 : Go B H3 H4 := (Go.new hm _).trans g4
    have hl4 : H4 l = some (.lst vs) := g34.ext _ _ hlB hl3
    have hp1 : upd H l (HO.lst []) p = none := dom1 (g03.trans g34) hl4 p hp
    refine ⟨l, _, _, rfl, rfl, (by rw [upd_ne (ne_of_none hl4 hp)]; exact hl4), sz_line (by omega), ?_⟩
    exact MsgInv.grow (u := .text x .nil) hl hlB hlb hBs g03 hl3 hn3 hg hs hlen (g34.trans (Go.new hp _)) (hb4.new hp _) ⟨p, [], rfl, by rw [fr_new hp1]; exact upd_same, rfl⟩ ⟨rfl, hx, trivial⟩
      (by have := nodeW_ge d; have := menu_len hx; show 1 + x.length + 0 ≤ _; omega) rfl
theorem both {fD fM : Addr} {fdD fdM : FuncData}
    (GD : FnOk P w K mg base CX0 1 fD fdD ["box", "many"] spDraw) (bD : Binds K fdD ["box", "many"] []) (kD : PySem.W.keepIn K (.ref fD) = true) (mD : mg "_law_draw" = some (.ref fD))
    (FM : Fun K "_law_message" "_law_message" sMsg fM fdM) (bM : Binds K fdM ["box", "depth", "inside", "numbers"] []) (mM : mg "_law_message" = some (.ref fM)) (mr : mg "range" = none) (ml : mg "len" = none) (mi : mg "int" = none) :
    ∀ d, FnOk P w K mg base CX0 (d + 2) fM fdM ["box", "depth", "inside", "numbers"] (spMsg d)
  | 0 => ok_msg (k := 1) (Nat.le_refl _) FM GD bD kD mD ((none_left fun vs H Q E ⟨_, e, _⟩ => by omega)) bM FM.kp mM mr ml mi
  | d + 1 => ok_msg (k := d + 2) (by omega) FM GD bD kD mD ((both GD bD kD mD FM bM mM mr ml mi d).imp fun vs H Q E ⟨e, he, h⟩ => by
      cases he
      exact h) bM FM.kp mM mr ml mi
end
end Mw

namespace Mw
open PySem L2
/-! ### nodes one by one -/
def HdW (hd : List V) : Prop := (∃ n, hd = [.str "select", .str n]) ∨ ∃ n off, hd = [.str "plural", .str n, .int off]
def KeyW (k : V) : Prop := (∃ s, k = .str s) ∨ ∃ i, k = .int i
/-- what any message is, and any chain of cases (c) -/
def Wf : T → Bool → Prop
  | .nil, _ => True
  | .text _ r, c => c = false ∧ Wf r c
  | .shw _ r, c => c = false ∧ Wf r c
  | .num r, c => c = false ∧ Wf r c
  | .cho hd cs o r, c => c = false ∧ HdW hd ∧ Wf cs true ∧ Wf o false ∧ Wf r c
  | .cas k m r, c => c = true ∧ KeyW k ∧ Wf m false ∧ Wf r c
def T.single : T → Prop
  | .nil => False
  | .text _ r => r = .nil
  | .shw _ r => r = .nil
  | .num r => r = .nil
  | .cho _ _ _ r => r = .nil
  | .cas _ _ r => r = .nil
def T.isCho : T → Bool
  | .cho _ _ _ _ => true
  | _ => false
def T.isText : T → Bool
  | .text _ _ => true
  | _ => false
def T.nodes : T → List T
  | .nil => []
  | .text s r => .text s .nil :: r.nodes
  | .shw n r => .shw n .nil :: r.nodes
  | .num r => .num .nil :: r.nodes
  | .cho hd cs o r => .cho hd cs o .nil :: r.nodes
  | .cas k m r => .cas k m .nil :: r.nodes
def T.msgs : T → List T
  | .cas _ m r => m :: r.msgs
  | _ => []
def T.inner : T → List T
  | .cho _ cs o _ => cs.msgs ++ [o]
  | _ => []
def Ns (H : Hp) : List T → List V → Prop
  | [], vs => vs = []
  | u :: us, vs => ∃ v ws, vs = v :: ws ∧ Nodes H u [v] ∧ Ns H us ws
def Ats (H : Hp) : List T → List V → Prop
  | [], vs => vs = []
  | t :: ts, vs => ∃ a ws, vs = .ref a :: ws ∧ At H a t ∧ Ats H ts ws
theorem At.same {H H' : Hp} {a : Addr} {t : T} (s : Same H H') (h : At H a t) : At H' a t := by
  obtain ⟨vs, h1, h2⟩ := h
  exact ⟨vs, s _ _ h1, Nodes.same s h2⟩
theorem Ns.same {H H' : Hp} (s : Same H H') : ∀ {us : List T} {vs : List V}, Ns H us vs → Ns H' us vs
  | [], _, h => h
  | u :: us, _, h => by
    obtain ⟨v, ws, rfl, h1, h2⟩ := h
    exact ⟨v, ws, rfl, Nodes.same s h1, Ns.same s h2⟩
theorem Ats.same {H H' : Hp} (s : Same H H') : ∀ {us : List T} {vs : List V}, Ats H us vs → Ats H' us vs
  | [], _, h => h
  | u :: us, _, h => by
    obtain ⟨v, ws, rfl, h1, h2⟩ := h
    exact ⟨v, ws, rfl, h1.same s, Ats.same s h2⟩
theorem Ns.length {H : Hp} : ∀ {us : List T} {vs : List V}, Ns H us vs → vs.length = us.length
  | [], _, h => by rw [show _ = [] from h]; rfl
  | u :: us, _, h => by
    obtain ⟨v, ws, rfl, _, h2⟩ := h
    exact congrArg (· + 1) h2.length
theorem Ats.length {H : Hp} : ∀ {us : List T} {vs : List V}, Ats H us vs → vs.length = us.length
  | [], _, h => by rw [show _ = [] from h]; rfl
  | u :: us, _, h => by
    obtain ⟨v, ws, rfl, _, h2⟩ := h
    exact congrArg (· + 1) h2.length
theorem Ns.append {H : Hp} {us' : List T} {vs' : List V} (h' : Ns H us' vs') : ∀ {us : List T} {vs : List V}, Ns H us vs → Ns H (us ++ us') (vs ++ vs')
  | [], _, h => by rw [show _ = [] from h]; exact h'
  | u :: us, _, h => by
    obtain ⟨v, ws, rfl, h1, h2⟩ := h
    exact ⟨v, ws ++ vs', rfl, h1, Ns.append h' h2⟩
theorem Ats.append {H : Hp} {us' : List T} {vs' : List V} (h' : Ats H us' vs') : ∀ {us : List T} {vs : List V}, Ats H us vs → Ats H (us ++ us') (vs ++ vs')
  | [], _, h => by rw [show _ = [] from h]; exact h'
  | u :: us, _, h => by
    obtain ⟨v, ws, rfl, h1, h2⟩ := h
    exact ⟨v, ws ++ vs', rfl, h1, Ats.append h' h2⟩
theorem Ns.get {H : Hp} : ∀ {us : List T} {vs : List V} {i : Nat} {v : V}, Ns H us vs → vs[i]? = some v → ∃ u, us[i]? = some u ∧ Nodes H u [v]
  | [], _, i, v, h, e => by
    rw [show _ = [] from h] at e
    simp at e
  | u :: us, _, 0, v, h, e => by
    obtain ⟨x, ws, rfl, h1, h2⟩ := h
    have : x = v := by simpa using e
    subst this
    exact ⟨u, rfl, h1⟩
  | u :: us, _, i + 1, v, h, e => by
    obtain ⟨x, ws, rfl, h1, h2⟩ := h
    obtain ⟨u', e1, e2⟩ := Ns.get (i := i) h2 (by simpa using e)
    exact ⟨u', by simpa using e1, e2⟩
theorem Ats.get {H : Hp} : ∀ {us : List T} {vs : List V} {i : Nat} {v : V}, Ats H us vs → vs[i]? = some v → ∃ u a, us[i]? = some u ∧ v = .ref a ∧ At H a u
  | [], _, i, v, h, e => by
    rw [show _ = [] from h] at e
    simp at e
  | u :: us, _, 0, v, h, e => by
    obtain ⟨x, ws, rfl, h1, h2⟩ := h
    have : V.ref x = v := by simpa using e
    subst this
    exact ⟨u, x, rfl, rfl, h1⟩
  | u :: us, _, i + 1, v, h, e => by
    obtain ⟨x, ws, rfl, h1, h2⟩ := h
    obtain ⟨u', a, e1, e2⟩ := Ats.get (i := i) h2 (by simpa using e)
    exact ⟨u', a, by simpa using e1, e2⟩
theorem Nodes.ns {H : Hp} : ∀ {t : T} {vs : List V}, Nodes H t vs → Ns H t.nodes vs
  | .nil, _, h => h
  | .text s r, _, h => by
    obtain ⟨p, ws, rfl, hp, hr⟩ := h
    exact ⟨_, ws, rfl, ⟨p, [], rfl, hp, rfl⟩, Nodes.ns hr⟩
  | .shw n r, _, h => by
    obtain ⟨p, ws, rfl, hp, hr⟩ := h
    exact ⟨_, ws, rfl, ⟨p, [], rfl, hp, rfl⟩, Nodes.ns hr⟩
  | .num r, _, h => by
    obtain ⟨p, ws, rfl, hp, hr⟩ := h
    exact ⟨_, ws, rfl, ⟨p, [], rfl, hp, rfl⟩, Nodes.ns hr⟩
  | .cho hd cs o r, _, h => by
    obtain ⟨p, ws, ca, cvs, oa, ovs, rfl, hp, hc, hcs, ho, hos, hr⟩ := h
    exact ⟨_, ws, rfl, ⟨p, [], ca, cvs, oa, ovs, rfl, hp, hc, hcs, ho, hos, rfl⟩, Nodes.ns hr⟩
  | .cas k m r, _, h => by
    obtain ⟨p, ws, ma, mvs, rfl, hp, hm, hms, hr⟩ := h
    exact ⟨_, ws, rfl, ⟨p, [], ma, mvs, rfl, hp, hm, hms, rfl⟩, Nodes.ns hr⟩
theorem Ns.nodes {H : Hp} : ∀ {t : T} {vs : List V}, Ns H t.nodes vs → Nodes H t vs
  | .nil, _, h => h
  | .text s r, _, h => by
    obtain ⟨v, ws, rfl, ⟨p, _, e, hp, _⟩, hr⟩ := h
    cases e
    exact ⟨p, ws, rfl, hp, Ns.nodes hr⟩
  | .shw n r, _, h => by
    obtain ⟨v, ws, rfl, ⟨p, _, e, hp, _⟩, hr⟩ := h
    cases e
    exact ⟨p, ws, rfl, hp, Ns.nodes hr⟩
  | .num r, _, h => by
    obtain ⟨v, ws, rfl, ⟨p, _, e, hp, _⟩, hr⟩ := h
    cases e
    exact ⟨p, ws, rfl, hp, Ns.nodes hr⟩
  | .cho hd cs o r, _, h => by
    obtain ⟨v, ws, rfl, ⟨p, _, ca, cvs, oa, ovs, e, hp, hc, hcs, ho, hos, _⟩, hr⟩ := h
    cases e
    exact ⟨p, ws, ca, cvs, oa, ovs, rfl, hp, hc, hcs, ho, hos, Ns.nodes hr⟩
  | .cas k m r, _, h => by
    obtain ⟨v, ws, rfl, ⟨p, _, ma, mvs, e, hp, hm, hms, _⟩, hr⟩ := h
    cases e
    exact ⟨p, ws, ma, mvs, rfl, hp, hm, hms, Ns.nodes hr⟩
/-- a node of a message: what its tuple begins with -/
theorem node_of {H : Hp} {u : T} {v : V} (h : Nodes H u [v]) (w : Wf u false) : ∃ p x xs, v = .ref p ∧ H p = some (.tup (.str x :: xs)) ∧ u.single ∧
    ((x = "select" ∨ x = "plural") ↔ u.isCho = true) ∧ (x = "text" ↔ u.isText = true) := by
  cases u with
  | nil => cases (show [v] = [] from h)
  | text s r =>
    obtain ⟨p, ws, e, hp, hr⟩ := h
    cases e
    have : r = .nil := by
      have := hr.length
      cases r <;> first | rfl | (simp [T.len] at this)
    exact ⟨p, _, _, rfl, hp, this, by simp [T.isCho]; decide, by simp [T.isText]⟩
  | shw n r =>
    obtain ⟨p, ws, e, hp, hr⟩ := h
    cases e
    have : r = .nil := by
      have := hr.length
      cases r <;> first | rfl | (simp [T.len] at this)
    exact ⟨p, _, _, rfl, hp, this, by simp [T.isCho]; decide, by simp [T.isText]; decide⟩
  | num r =>
    obtain ⟨p, ws, e, hp, hr⟩ := h
    cases e
    have : r = .nil := by
      have := hr.length
      cases r <;> first | rfl | (simp [T.len] at this)
    exact ⟨p, _, _, rfl, hp, this, by simp [T.isCho]; decide, by simp [T.isText]; decide⟩
  | cho hd cs o r =>
    obtain ⟨p, ws, ca, cvs, oa, ovs, e, hp, _, _, _, _, hr⟩ := h
    cases e
    have : r = .nil := by
      have := hr.length
      cases r <;> first | rfl | (simp [T.len] at this)
    rcases w.2.1 with ⟨n, rfl⟩ | ⟨n, off, rfl⟩
    · exact ⟨p, _, _, rfl, hp, this, by simp [T.isCho], by simp [T.isText]; decide⟩
    · exact ⟨p, _, _, rfl, hp, this, by simp [T.isCho], by simp [T.isText]; decide⟩
  | cas k m r => cases w.1
theorem Nodes.msgs {H : Hp} : ∀ {t : T} {vs : List V}, Nodes H t vs → Wf t true → ∃ ms, Ats H t.msgs ms ∧ vs.length = ms.length ∧ ∀ (i : Nat) (v : V), vs[i]? = some v → ∃ (p : Addr) (k : V) (a : Addr), v = V.ref p ∧ H p = some (.tup [k, .ref a]) ∧ ms[i]? = some (V.ref a)
  | .nil, _, h, _ => ⟨[], rfl, by rw [show _ = [] from h], fun i v e => by rw [show _ = [] from h] at e; simp at e⟩
  | .text s r, _, h, w => by cases w.1
  | .shw n r, _, h, w => by cases w.1
  | .num r, _, h, w => by cases w.1
  | .cho hd cs o r, _, h, w => by cases w.1
  | .cas k m r, _, h, w => by
    obtain ⟨p, ws, ma, mvs, rfl, hp, hm, hms, hr⟩ := h
    obtain ⟨ms, h1, h2, h3⟩ := Nodes.msgs hr w.2.2.2
    refine ⟨.ref ma :: ms, ⟨ma, ms, rfl, ⟨mvs, hm, hms⟩, h1⟩, congrArg (· + 1) h2, fun i v e => ?_⟩
    cases i with
    | zero =>
      have : V.ref p = v := by simpa using e
      subst this
      exact ⟨p, k, ma, rfl, hp, rfl⟩
    | succ i =>
      obtain ⟨q, k', a, e1, e2, e3⟩ := h3 i v (by simpa using e)
      exact ⟨q, k', a, e1, e2, by simpa using e3⟩
end Mw

namespace Mw
open PySem L2
theorem atI_m1 {α : Type} (xs : List α) (a b : α) : atI (xs ++ [a, b]) (-1) = some b := by
  rw [show xs ++ [a, b] = (xs ++ [a]) ++ [b] by simp]
  exact atI_last _ _
theorem atI_m2 {α : Type} (xs : List α) (a b : α) : atI (xs ++ [a, b]) (-2) = some a := by
  unfold atI ixN
  have hl : (xs ++ [a, b]).length = xs.length + 2 := by simp
  rw [if_neg (by decide), if_pos (by rw [hl]; omega), hl]
  show (xs ++ [a, b])[((-2 : Int) + ((xs.length + 2 : Nat) : Int)).toNat]? = some a
  rw [show ((-2 : Int) + ((xs.length + 2 : Nat) : Int)).toNat = xs.length by omega]
  rw [List.getElem?_append_right (Nat.le_refl _), Nat.sub_self]
  rfl
section
variable {P : Program} {w : World} {K : PySem.W.Frag} {mg : Str → Option Value} {base : Heap}
/-! ### is_choice -/
abbrev sIs : Stmt := top 3
theorem scIs : FnScope ["node"] ["node"] (defScope sIs) := ⟨rfl, rfl, rfl, by decide +kernel, rfl, by decide +kernel, by decide +kernel⟩
def spIs : Sp := fun vs H Q _ => ∃ (v : V) (u : T), vs = [v] ∧ Nodes H u [v] ∧ Wf u false ∧ ∀ H', Same H H' → Q (.bl u.isCho) H'
theorem in_two (x a b : Str) : inV (.str x) [.str a, .str b] = decide (x = a ∨ x = b) := by
  have h : ∀ c d : Str, (c == d) = decide (d = c) := fun c d => by
    by_cases e : d = c
    · subst e
      simp
    · rw [decide_eq_false e]
      exact beq_eq_false_iff_ne.mpr fun z => e z.symm
  unfold inV
  simp only [List.any_cons, List.any_nil, Bool.or_false, eqV, h]
  exact (Bool.decide_or _ _).symm
theorem ok_is {f : Addr} {fd : FuncData} (F : Fun K "is_choice" "is_choice" sIs f fd) : FnOk P w K mg base CX0 1 f fd ["node"] spIs := by
  refine F.ok scIs (fun vs H Q E h => ?_) (fun cdv A outer s H vs Q E hr h => ?_)
  · obtain ⟨v, u, rfl, _⟩ := h
    rfl
  obtain ⟨v, u, rfl, hn, hw, q⟩ := h
  obtain ⟨p, x, xs, rfl, hp, _, hc, _⟩ := node_of hn hw
  refine ⟨_, pss_one (ps_ret (pe_cmpR op_in_seq (pe_ix ix_tup (pv 0) pe_int (fun _ _ => rfl)) (pe_tup (pa_cons pe_str (pa_cons pe_str pa_nil))) (by rfl))), ?_⟩
  refine ⟨_, rfl, p, _, 0, .str x, rfl, rfl, .inl (.inl hp), atI_nat (j := 0) rfl, by show 2 ≤ sizeLine; decide, fun t ht => ⟨t, _, rfl, .inr (.inl (.inl upd_same)), rfl, rfl, ?_⟩⟩
  have e : inV (V.str x) [.str "select", .str "plural"] = u.isCho := by
    rw [in_two]
    cases hu : u.isCho with
    | true => exact decide_eq_true (hc.mpr hu)
    | false => exact decide_eq_false fun z => by rw [hc.mp z] at hu; cases hu
  show Q (.bl (inV (V.str x) [.str "select", .str "plural"])) _
  rw [e]
  exact q _ (same_new ht _)
/-! ### cases_of, other_of -/
abbrev sCases : Stmt := top 4
abbrev sOther : Stmt := top 5
theorem scCases : FnScope ["node"] ["node"] (defScope sCases) := ⟨rfl, rfl, rfl, by decide +kernel, rfl, by decide +kernel, by decide +kernel⟩
theorem scOther : FnScope ["node"] ["node"] (defScope sOther) := ⟨rfl, rfl, rfl, by decide +kernel, rfl, by decide +kernel, by decide +kernel⟩
def spCases : Sp := fun vs H Q _ => ∃ (p ca oa : Addr) (hd cvs : List V), vs = [.ref p] ∧ H p = some (.tup (hd ++ [.ref ca, .ref oa])) ∧ H ca = some (.lst cvs) ∧ ∀ l, H l = none → Q (.ref l) (upd H l (.lst cvs))
def spOther : Sp := fun vs H Q _ => ∃ (p ca oa : Addr) (hd : List V), vs = [.ref p] ∧ H p = some (.tup (hd ++ [.ref ca, .ref oa])) ∧ Q (.ref oa) H
theorem ok_cases {f : Addr} {fd : FuncData} (F : Fun K "cases_of" "cases_of" sCases f fd) (ml : mg "list" = none) : FnOk P w K mg base CX0 1 f fd ["node"] spCases := by
  refine F.ok scCases (fun vs H Q E h => ?_) (fun cdv A outer s H vs Q E hr h => ?_)
  · obtain ⟨p, ca, oa, hd, cvs, rfl, _⟩ := h
    rfl
  obtain ⟨p, ca, oa, hd, cvs, rfl, hp, hc, q⟩ := h
  refine ⟨_, pss_one (ps_ret (pe_callTy call_list_of (by rfl) ml (by decide +kernel) (pa_cons (pe_ix ix_tup (pv 0) (pe_un un_neg pe_int) (fun _ _ => rfl)) pa_nil))), ?_⟩
  exact ⟨_, rfl, 2, rfl, p, _, -2, .ref ca, rfl, rfl, .inl (.inl hp), atI_m2 _ _ _, ca, _, rfl, .inl (SqL.of hc), q⟩
theorem ok_other {f : Addr} {fd : FuncData} (F : Fun K "other_of" "other_of" sOther f fd) : FnOk P w K mg base CX0 1 f fd ["node"] spOther := by
  refine F.ok scOther (fun vs H Q E h => ?_) (fun cdv A outer s H vs Q E hr h => ?_)
  · obtain ⟨p, ca, oa, hd, rfl, _⟩ := h
    rfl
  obtain ⟨p, ca, oa, hd, rfl, hp, q⟩ := h
  refine ⟨_, pss_one (ps_ret (pe_ix ix_tup (pv 0) (pe_un un_neg pe_int) (fun _ _ => rfl))), ?_⟩
  exact ⟨_, rfl, 1, rfl, p, _, -1, .ref oa, rfl, rfl, .inl (.inl hp), atI_m1 _ _ _, q⟩
/-! ### inner_messages -/
abbrev sInner : Stmt := top 6
theorem scInner : FnScope ["node", "_", "message"] ["node"] (defScope sInner) := ⟨rfl, rfl, rfl, by decide +kernel, rfl, by decide +kernel, by decide +kernel⟩
def spInner : Sp := fun vs H Q _ => ∃ (H0 : Hp) (v : V) (u : T), vs = [v] ∧ Same H0 H ∧ Nodes H0 u [v] ∧ Wf u false ∧ u.sz < 100000 ∧ ∀ l H' ms, H l = none → Same H H' → H' l = some (.lst ms) → Ats H0 u.inner ms → Q (.ref l) H'
theorem len_sz : ∀ t : T, t.len ≤ t.sz
  | .nil => Nat.le_refl _
  | .text s r => by have := len_sz r; simp only [T.len, T.sz]; omega
  | .shw s r => by have := len_sz r; simp only [T.len, T.sz]; omega
  | .num r => by have := len_sz r; simp only [T.len, T.sz]; omega
  | .cho _ _ _ r => by have := len_sz r; simp only [T.len, T.sz]; omega
  | .cas _ _ r => by have := len_sz r; simp only [T.len, T.sz]; omega
theorem ok_inner {f fI fC fO : Addr} {fd fdI fdC fdO : FuncData} (F : Fun K "inner_messages" "inner_messages" sInner f fd)
    (GI : FnOk P w K mg base CX0 1 fI fdI ["node"] spIs) (bI : Binds K fdI ["node"] []) (kI : PySem.W.keepIn K (.ref fI) = true) (mI : mg "is_choice" = some (.ref fI))
    (GC : FnOk P w K mg base CX0 1 fC fdC ["node"] spCases) (bC : Binds K fdC ["node"] []) (kC : PySem.W.keepIn K (.ref fC) = true) (mC : mg "cases_of" = some (.ref fC))
    (GO : FnOk P w K mg base CX0 1 fO fdO ["node"] spOther) (bO : Binds K fdO ["node"] []) (kO : PySem.W.keepIn K (.ref fO) = true) (mO : mg "other_of" = some (.ref fO)) :
    FnOk P w K mg base CX0 2 f fd ["node"] spInner := by
  refine F.ok scInner (fun vs H Q E h => ?_) (fun cdv A outer s H vs Q E hr h => ?_)
  · obtain ⟨H0, v, u, rfl, _⟩ := h
    rfl
  obtain ⟨H0, v, u, rfl, h0, hn, hw, hz, q⟩ := h
  have nd := scInner.nd
  refine ⟨_, pss_cons (ps_if (pt_not (pt_val (pe_call GI hr rfl mI kI bI .nil pass0 (pa_cons (pv 0) pa_nil)))) (pss_one (ps_ret (pe_lst pa_nil))) pss_nil)
    (pss_one (ps_ret (pe_op op_cat
      (pe_lc (own := [("_", 1), ("message", 2)]) (g := gTup K 2 (gCons (gName 1) (gCons (gName 2) gNil))) (tt := tYes) rfl nd (pi_list (pe_call GC hr rfl mC kC bC .nil pass0 (pa_cons (pv 0) pa_nil))) (blkOk_by (N := ["node", "_", "message"]) (sc := defScope sInner) (by decide +kernel))
        (fun _ _ _ _ _ => pg_tup rfl (pgs_cons (pg_name (i := 1) nd rfl (.inl rfl)) (pgs_cons (pg_name (i := 2) nd rfl (.inl rfl)) pgs_nil))) (fun _ _ _ _ _ => pts_nil) (fun _ _ _ _ _ => pv 2))
      (pe_lst (pa_cons (pe_call GO hr rfl mO kO bO .nil pass0 (pa_cons (pv 0) pa_nil)) pa_nil))))), ?_⟩
  refine ⟨_, rfl, v, u, rfl, Nodes.same h0 hn, hw, fun H1 s1 => ⟨_, rfl, ?_⟩⟩
  cases hu : u.isCho with
  | false =>
    refine iteT ⟨Nat.zero_le _, fun l hl => q l _ [] (s1.free hl) (s1.trans (same_new hl _)) upd_same ?_⟩
    cases u <;> first | exact rfl | cases hu
  | true =>
    refine iteF ?_
    cases u with
    | cho hd cs o r =>
      obtain ⟨p, ws, ca, cvs, oa, ovs, e, hp, hc, hcs, ho, hos, hr'⟩ := hn
      cases e
      obtain ⟨ms, m1, m2, m3⟩ := Nodes.msgs hcs hw.2.2.1
      have hlen : ms.length < 99999 := by
        have e1 := hcs.length
        have e2 := len_sz cs
        simp only [T.sz] at hz
        omega
      refine ⟨_, rfl, p, ca, oa, hd, cvs, rfl, s1 _ _ (h0 _ _ hp), s1 _ _ (h0 _ _ hc), fun l hl => ⟨l, rfl, ⟨_, SqL.of upd_same⟩, fun D hD => ?_⟩⟩
      have s2 : Same H (upd H1 l (.lst cvs)) := s1.trans (same_new hl _)
      have s3 : Same (upd H1 l (.lst cvs)) (upd (upd H1 l (.lst cvs)) D (.lst [])) := same_new hD _
      refine lc_list (xs := cvs) (fun i H' => Same (upd H1 l (.lst cvs)) H' ∧ H' D = some (.lst (ms.take i))) ⟨s3, upd_same⟩ (fun i H' _ ⟨s', _⟩ => SqL.of (s' _ _ upd_same)) ?_ ?_
      · rintro i x H' hx ⟨s', hD'⟩
        obtain ⟨p', k, a, rfl, hp', hm'⟩ := m3 i x hx
        refine ⟨p', _, rfl, .inl (.inl (s' _ _ (s2 _ _ (h0 _ _ hp')))), rfl, k, _, rfl, .ref a, [], rfl, rfl, rfl, ?_⟩
        refine ⟨_, rfl, _, hD', sz_line (by rw [List.length_take]; omega), same_mut s' hD _, ?_⟩
        rw [upd_same, List.take_succ, hm']
        rfl
      · rintro H' ⟨s', hD'⟩
        have s4 : Same H H' := s2.trans s'
        rw [m2, List.take_length] at hD'
        refine ⟨_, rfl, p, ca, oa, hd, rfl, s4 _ _ (h0 _ _ hp), by show 1 ≤ sizeLine; decide, fun l2 hl2 => ?_⟩
        refine ⟨D, l2, _, _, rfl, rfl, same_new hl2 _ _ _ hD', upd_same, le_line (by show ms.length + 1 < 10000000; omega), fun l3 hl3 => ?_⟩
        have s5 : Same H (upd (upd H' l2 (.lst [.ref oa])) l3 (.lst (ms ++ [.ref oa]))) := (s4.trans (same_new hl2 _)).trans (same_new hl3 _)
        have ha : Ats H0 (T.cho hd cs o r).inner (ms ++ [.ref oa]) := Ats.append (show Ats H0 [o] [.ref oa] from ⟨oa, [], rfl, ⟨ovs, ho, hos⟩, rfl⟩) m1
        exact q l3 _ (ms ++ [.ref oa]) ((s4.trans (same_new hl2 _)).free hl3) s5 upd_same ha
    | _ => cases hu
end
end Mw

/-! repr of tuples of tuples, whatever is being shown around: some text of a bounded length -/
namespace Rp
open PySem PySem.Spec PyProof.Rows L2
/-- x is shown, with d levels, by at most n signs -/
def Le (prog : Program) (w : World) (h₀ : Heap) (d : Nat) (x : Value) (n : Nat) : Prop :=
  ∀ b : Nat, b + n ≤ sizeLine → ∀ (A : Around) (E : Value → Shared → Prop) (s : Shared) (Q : Str → Shared → Prop), A.units + d < cLine → (∀ a o, h₀.get? a = some o → s.heap.get? a = some o) →
    (∀ m tk, m.length ≤ n → Q m { s with toks := tk }) → wpAny (model prog w) A (pyReprUnder b x) Q E s
theorem Le.is {prog : Program} {w : World} {h₀ : Heap} {d : Nat} {x : Value} {t : Str} {n : Nat} (h : ReprIs prog w x t) (hn : t.length ≤ n) : Le prog w h₀ d x n := fun b hb A E s _ _ _ q =>
  h b (by omega) A E s _ fun tk => q t tk hn
inductive LeAll (prog : Program) (w : World) (h₀ : Heap) (d : Nat) : List Value → List Nat → Prop
  | nil : LeAll prog w h₀ d [] []
  | cons {x : Value} {n : Nat} {l : List Value} {ns : List Nat} (h : Le prog w h₀ d x n) (t : LeAll prog w h₀ d l ns) : LeAll prog w h₀ d (x :: l) (n :: ns)
def pil (ns : List Nat) : Nat := (ns.map (· + 2)).sum
section
variable {prog : Program} {w : World} {A : Around} {E : Value → Shared → Prop} {h₀ : Heap} {d : Nat}
theorem fold_le (hu : A.units + d < cLine) : ∀ (l : List Value) (ns : List Nat) (acc : Array Str) (n : Nat) (s : Shared) (Q : (Array Str × Nat) → Shared → Prop), LeAll prog w h₀ d l ns → n + pil ns ≤ sizeLine →
    (∀ a o, h₀.get? a = some o → s.heap.get? a = some o) → (∀ (ts : List Str) tk m, piled ts ≤ pil ns → Q ⟨acc ++ ts.toArray, m⟩ { s with toks := tk }) → wpAny (model prog w) A (forIn l (⟨acc, n⟩ : (Array Str × Nat)) tupBody) Q E s
  | [], _, acc, n, s, Q, h, hn, hk, q => by
    cases h
    rw [List.forIn_nil]
    have e := q [] s.toks n (Nat.le_refl _)
    exact wpAny_pure (by simpa using e)
  | x :: l, _, acc, n, s, Q, h, hn, hk, q => by
    cases h with
    | @cons _ y _ ns hx hl =>
      have e1 : pil (y :: ns) = y + 2 + pil ns := by simp [pil]
      rw [List.forIn_cons]
      refine wpAny_bind (wpAny_bind (hx (n + 1) (by omega) A _ s _ hu hk fun m tk hm => wpAny_pure ?_))
      refine fold_le hu l ns (acc.push m) _ _ Q hl (by omega) hk fun ts tk' k hts => ?_
      have e2 := q (m :: ts) tk' k (by rw [piled_cons]; omega)
      simpa using e2
/-- the text between the brackets and these -/
theorem rest_le {a : Addr} {o : Obj} {items : Array Value} {k b : Nat} {ns : List Nat} {s : Shared} {Q : Fin → Shared → Prop} (hu : A.units + d < cLine) (ha : s.heap.get? a = some o) (hd : o.data = .seq items k) (hT : LeAll prog w h₀ d items.toList ns)
    (hk : ∀ a o, h₀.get? a = some o → s.heap.get? a = some o) (hz : b + pil ns + 10 ≤ sizeLine) (q : ∀ m u tk, m.length ≤ pil ns + 5 → Q (.done (.ret (.str m u))) { s with toks := tk }) : wpAny (model prog w) A (tupleReprRest b (.ref a)) Q E s := by
  unfold tupleReprRest Builtin.Tuple.tupleItemsOf
  refine wpAny_bind (wpAny_bind (wpAny_seqItems ha hd (wpAny_pure ?_)))
  rw [← Array.forIn_toList]
  refine wpAny_bind (fold_le hu _ ns #[] b s _ hT (by omega) hk fun ts tk m hts => ?_)
  have e3 : (((if items.size == 1 then ",)" else ")" : String) : Str)).length ≤ 2 := by split <;> decide +kernel
  have e1 : ((("(" : String) : Str)).length = 1 := rfl
  have ej : (Str.join ", " ts).length ≤ pil ns := by
    by_cases h : ts = []
    · subst h
      exact Nat.zero_le _
    · have := join_length_add ts h
      omega
  have et : ((("(" : Str) ++ Str.join ", " (#[] ++ ts.toArray : Array Str).toList ++ (if items.size == 1 then ",)" else ")" : String)) : Str).length ≤ pil ns + 5 := by
    rw [strLen_append, strLen_append, e1, show (#[] ++ ts.toArray : Array Str).toList = ts by simp]
    omega
  exact wpAny_bind (wpAny_mkStr (wpAny_pure (q _ _ _ et)) (Nat.le_trans et (by omega)))
/-- a tuple's own repr, whatever is under way -/
theorem own_le {a : Addr} {o : Obj} {items : Array Value} {k b : Nat} {ns : List Nat} {s : Shared} {Q : Fin → Shared → Prop} (hu : A.units + d < cLine) (ha : s.heap.get? a = some o) (hd : o.data = .seq items k) (hT : LeAll prog w h₀ d items.toList ns)
    (hk : ∀ a o, h₀.get? a = some o → s.heap.get? a = some o) (hz : b + pil ns + 10 ≤ sizeLine) (q : ∀ m u tk, m.length ≤ pil ns + 5 → Q (.done (.ret (.str m u))) { s with toks := tk }) : wpAny (model prog w) A (Builtin.tupleReprAt b ⟨[.ref a], []⟩) Q E s := by
  rw [tuple_repr_tree]
  refine wpAny_bind (fmt_underWay fun c => ?_)
  cases c with
  | true =>
    refine PySem.W.KFB.if_so rfl (wpAny_bind (wpAny_rule (wpAny_bind (wpAny_mkStr (wpAny_pure ?_) (by decide +kernel)))))
    exact q "(...)" _ _ (Nat.le_trans fmt_way (Nat.le_add_left _ _))
  | false => exact PySem.W.KFB.if_not rfl (rest_le hu ha hd hT hk hz q)
theorem Le.tup {a : Addr} {o : Obj} {items : Array Value} {k : Nat} {ns : List Nat} (ha : h₀.get? a = some o) (hc : o.cls = .type "tuple") (hd : o.data = .seq items k) (hT : LeAll prog w h₀ d items.toList ns) : Le prog w h₀ (d + 1) (.ref a) (pil ns + 10) := by
  intro b hb A E s Q hu hk q
  have ha' := hk _ _ ha
  refine wpAny_pyReprUnder_ref (by omega) (wpAny_pyReprObjUnder_twin (twin := "tuple.__repr__.under") ⟨o, ha', hc⟩ F.slot_tuple_repr rfl (by omega) ?_)
  refine call_twin_own (F.quiet_tuple_repr_under _) F.entry_tuple_repr_under F.check_tuple_repr_under ⟨o, ha', hc⟩ F.slot_tuple_repr (F.args_tuple_repr_1 _) (wpOwn_of_wpAny ?_)
  refine own_le (by first | (rw [units_under_tuple_repr_under]; omega) | omega) ha' hd hT hk (by omega) fun m u tk hm => ?_
  exact ⟨⟨_, _, rfl⟩, _, _, rfl, q m tk (by omega)⟩
theorem call_le {a : Addr} {o : Obj} {items : Array Value} {k : Nat} {ns : List Nat} {s : Shared} {Q : Value → Shared → Prop} (hu : A.units + (d + 1) < cLine) (ha : s.heap.get? a = some o) (hc : o.cls = .type "tuple") (hd : o.data = .seq items k) (hT : LeAll prog w h₀ d items.toList ns)
    (hk : ∀ a o, h₀.get? a = some o → s.heap.get? a = some o) (hz : pil ns + 10 ≤ sizeLine) (q : ∀ m u tk, m.length ≤ pil ns + 5 → Q (.str m u) { s with toks := tk }) : wpAny (model prog w) A (call (.builtin "tuple.__repr__") [.ref a]) Q E s := by
  refine wpAny_call (codeAny_call_builtin_own (Code.quiet_builtin _ (by decide +kernel)) F.entry_tuple_repr (F.slot_tuple_repr.check _ _ _ _ _ _ _ _ ⟨o, ha, hc⟩ (F.args_tuple_repr_1 _) (wpOwn_of_wpAny ?_)))
  exact own_le (b := 0) (by first | (rw [units_under_tuple_repr]; omega) | omega) ha hd hT hk (by omega) q
end
section
variable {X : Cx}
/-- {p!r}, p a tuple of tuples of texts and small numbers: some text -/
def tFmtP (K : PySem.W.Frag) (te : TE) : TE := fun σ H Q => te σ H fun x H1 => ∃ (a : Addr) (vs : List V), x = .ref a ∧ SqT K H1 a vs ∧ vs.length ≤ 100 ∧
  (∀ v ∈ vs, ∃ q i k, v = .ref q ∧ SqT K H1 q [.int i, k] ∧ i.natAbs.log2 < 1920 ∧ (toString i : Str).length ≤ 100 ∧ ((∃ j : Int, k = .int j ∧ j.natAbs.log2 < 1920 ∧ (toString j : Str).length ≤ 100) ∨ ∃ y : Str, k = .str y ∧ (reprText y).length ≤ 100)) ∧ ∀ m : Str, m.length ≤ 30000 → Q (.str m) H1
theorem pe_fmtP {e : Expr} {te : TE} {pos : Pos} {k : Nat} (hr : Room k X.A) (he : PE X e te) : PE X (.FormattedValue e 114 none pos) (tFmtP X.K te) := by
  refine ⟨fun pins s σ H Q I h => ?_⟩
  refine wpAny_FormattedValue_repr (thn (he.run pins s σ H _ I h) fun v s1 hv => ?_)
  obtain ⟨x, H1, I1, r1, a, vs, rfl, ht, hl, hall, q⟩ := hv
  cases r1
  obtain ⟨its, rv, ⟨o, ho, hcl, n, hd⟩, _⟩ := I1.tuple ht
  have hu := hr.units
  have big : (40000 : Nat) ≤ sizeLine := by decide
  have one : ∀ v ∈ vs, ∀ u, RelV v u → Le X.prog X.w s1.heap 1 u 220 := by
    intro v hv u r
    obtain ⟨q', i, kk, rfl, hq, hi1, hi2, hkk⟩ := hall v hv
    cases r
    obtain ⟨its', rv', ⟨o', ho', hcl', n', hd'⟩, _⟩ := I1.tuple hq
    cases rv' with
    | cons ra rb =>
      cases rb with
      | cons rb rc =>
        cases rc
        obtain ⟨t1, rfl⟩ := ra
        have l1 : Le X.prog X.w s1.heap 0 (.int i t1) 100 := Le.is (ReprIs.int t1 hi1) hi2
        have l2 : ∃ u2, Le X.prog X.w s1.heap 0 u2 100 ∧ RelV kk u2 ∧ u2 = _ := ⟨_, by
          rcases hkk with ⟨j, rfl, hj1, hj2⟩ | ⟨y, rfl, hy⟩
          · obtain ⟨t2, rfl⟩ := rb
            exact Le.is (ReprIs.int t2 hj1) hj2
          · obtain ⟨t2, rfl⟩ := rb
            exact Le.is (ReprIs.str y t2 (by omega)) hy, rb, rfl⟩
        obtain ⟨u2, l2, _, rfl⟩ := l2
        have := Le.tup (prog := X.prog) (w := X.w) (ns := [100, 100]) ho' hcl' hd' (by simpa using LeAll.cons l1 (LeAll.cons l2 .nil))
        exact fun b hb A E s Q hu hk q => this b (by simp [pil]; omega) A E s Q hu hk fun m tk hm => q m tk (by simp [pil] at hm; omega)
  have all : ∀ (vs : List V) (us : List Value), Vals vs us → (∀ v ∈ vs, ∀ u, RelV v u → Le X.prog X.w s1.heap 1 u 220) → LeAll X.prog X.w s1.heap 1 us (List.replicate vs.length 220) := by
    intro vs us r
    induction r with
    | nil => intro _; exact .nil
    | cons r1 r2 ih => intro h; exact .cons (h _ (by simp) _ r1) (ih fun v hv => h v (List.mem_cons_of_mem _ hv))
  have hp : pil (List.replicate vs.length 220) ≤ 22200 := by
    have : pil (List.replicate vs.length 220) = vs.length * 222 := by simp [pil]
    omega
  refine wpAny_pyReprObj_slot (by omega) ⟨o, ho, hcl⟩ F.slot_tuple_repr ?_
  refine call_le (d := 1) (h₀ := s1.heap) (by omega) ho hcl hd (by simpa using all vs its rv one) (fun _ _ e => e) (by omega) fun m u tk hm => ⟨m, u, rfl, ?_⟩
  have I2 : Inv X pins σ H1 { s1 with toks := tk } := I1.tok _
  exact wpAny_formatField_str ⟨.str m, H1, I2, ⟨_, rfl⟩, q m (by omega)⟩ ⟨.str m, H1, I2.tok _, ⟨_, rfl⟩, q m (by omega)⟩ (by omega)
end
end Rp

/-! defs that are called where nothing is being shown: what they promise, and repr of data there -/
namespace Gg
open PySem PySem.Spec PyProof.Rows L2
structure FnG (P : Program) (w : World) (K : PySem.W.Frag) (mg : Str → Option Value) (base : Heap) (CX : CXT) (k : Nat) (f : Addr) (fd : FuncData) (ps : List Str) (sp : Sp) : Prop where
  len : ∀ vs H Q E, sp vs H Q E → vs.length = ps.length
  run : ∀ (A : Around) (outer : List Env) (s : Shared) (H : Hp) (args : Args) (us : List Value) (vs : List V) (Q : VK) (E : XK), A.guards = some [] → Room k A → Env0 P w K mg base A outer s H → BindsTo s fd args (ps.zip us) → Vals vs us → sp vs H Q E →
    codeAny (model P w) A (.call (.ref f) args) (CR CX outer P w H s Q E) s
theorem FnG.mono {P : Program} {w : World} {K : PySem.W.Frag} {mg : Str → Option Value} {base : Heap} {CX : CXT} {j k : Nat} {f : Addr} {fd : FuncData} {ps : List Str} {sp : Sp} (F : FnG P w K mg base CX j f fd ps sp) (h : j ≤ k) : FnG P w K mg base CX k f fd ps sp :=
  ⟨F.len, fun A outer s H args us vs Q E hg hr => F.run A outer s H args us vs Q E hg (hr.mono h)⟩
theorem FnG.imp {P : Program} {w : World} {K : PySem.W.Frag} {mg : Str → Option Value} {base : Heap} {CX : CXT} {k : Nat} {f : Addr} {fd : FuncData} {ps : List Str} {sp sp' : Sp} (F : FnG P w K mg base CX k f fd ps sp) (h : ∀ vs H Q E, sp' vs H Q E → sp vs H Q E) : FnG P w K mg base CX k f fd ps sp' :=
  ⟨fun vs H Q E q => F.len vs H Q E (h _ _ _ _ q), fun A outer s H args us vs Q E hg hr he hb hv hs => F.run A outer s H args us vs Q E hg hr he hb hv (h _ _ _ _ hs)⟩
section
variable {P : Program} {w : World} {K : PySem.W.Frag} {mg : Str → Option Value} {base : Heap}
/-- from a promise that asks nothing of the guards -/
theorem FnG.of {CX : CXT} {k : Nat} {f : Addr} {fd : FuncData} {ps : List Str} {sp : Sp} (F : FnOk P w K mg base CX k f fd ps sp) : FnG P w K mg base CX k f fd ps sp := ⟨F.len, fun A outer s H args us vs Q E _ => F.run A outer s H args us vs Q E⟩
theorem none_leftG {k : Nat} {f : Addr} {fd : FuncData} {ps : List Str} {sp : Sp} (no : ∀ vs H Q E, ¬ sp vs H Q E) : FnG P w K mg base CX0 k f fd ps sp :=
  ⟨fun vs H Q E h => absurd h (no _ _ _ _), fun _ _ _ _ _ _ _ _ _ _ _ _ _ _ h => absurd h (no _ _ _ _)⟩
/-- a def by its body, run where nothing is being shown -/
theorem okG {x qual : Str} {st : Stmt} {f : Addr} {fd : FuncData} {N ps : List Str} {k : Nat} {sp : Sp} (F : Fun K x qual st f fd) (S : FnScope N ps (defScope st)) (len : ∀ vs H Q E, sp vs H Q E → vs.length = ps.length)
    (body : ∀ (A : Around) (cdv : Value) (outer : List Env) (s : Shared) (H : Hp) (vs : List V) (Q : VK) (E : XK), A.guards = some [] → Room k (A.deeper (envOfC qual (defScope st) s.heap.objs.size f cdv)) → sp vs H Q E →
      ∃ t, PSs (cxOf CX0 P w K mg base N qual (defScope st) f cdv A outer s H E).nox (defBody st) t ∧ t { nx := fun _ H' => Q .non H', rt := Q } (start N vs) H) : FnG P w K mg base CX0 (k + 1) f fd ps sp := by
  obtain ⟨oc, od, kV, doc, pm, an, cdv, ct, osl, rfl, lk, hcd⟩ := F.ex
  refine ⟨len, fun A outer s H args us vs Q E gd hr e0 hb r hsp => ?_⟩
  have hl : vs.length = ps.length := len _ _ _ _ hsp
  have keepK : ∀ b o, base.get? b = some o → s.heap.get? b = some o := fun b o e => (e0.bs b o e).1
  have KX : K.In s.heap := e0.mod.kin.keeps keepK
  have lim : s.heap.NoLimit := e0.mod.nolimit.keeps keepK
  have kinds : ∀ y ∈ ps.zip us, (defScope st).names.lookup y.1 = some .local ∨ ((defScope st).names.lookup y.1 = some .cell ∧ ((cellsFrom (s.heap.objs.size + 1) (defScope st).names []).lookup y.1).isSome = true) := by
    rintro ⟨n, v⟩ hy
    rcases S.par n (List.of_mem_zip hy).1 with q | q
    · exact Or.inl q
    · exact Or.inr ⟨q, PySem.W.cellsFrom_some _ _ _ (Or.inl q)⟩
  refine codeAny_call_function hr.depth (KX _ _ lk) rfl S.co S.gen rfl (PySem.W.codeRec_of KX hcd) (hb _ _ _ _ ?_)
  refine wpAny_newFunctionEnv_cells S.kind kinds fun env he s1 x1 => ?_
  subst he
  refine ⟨lim.keeps x1.toInCall.keep, codeAny_func ?_⟩
  obtain ⟨t, ht, hq⟩ := body A cdv outer s H vs Q E gd (hr.deeper _) hsp
  have I := inv_start (CX := CX0) (E := E) S hr.hd e0 hl r x1
  refine wpAny_mono (ht.nox.run [] s1 (start N vs) H _ I hq) (fun fl s' hs => ?_) fun e s' hs => hs
  cases fl with
  | ret u =>
    obtain ⟨v, σ', H', J, rv, q⟩ := hs
    exact ⟨v, H', J.os, J.bare, J.base, J.hok, rv, q⟩
  | next =>
    obtain ⟨σ', H', J, q⟩ := hs
    exact ⟨V.non, H', J.os, J.bare, J.base, J.hok, rfl, q⟩
  | brk =>
    obtain ⟨_, _, _, q⟩ := hs
    exact q.elim
  | cont =>
    obtain ⟨_, _, _, q⟩ := hs
    exact q.elim
end
section
variable {X : Cx} {CX : CXT} {k : Nat} {f C : Addr} {fd : FuncData} {ps : List Str} {sp : Sp} {dvs : List V} {ds : List Value} {E : XK} {x : Str} {p pos : Pos} {e : Expr} {es : List Expr} {t : TA}
theorem run_fnG {pins : List (Addr × Obj)} {σ : L2.St} {H : Hp} {s : Shared} {Q : VK} {us : List Value} {vs : List V} (gd : X.A.guards = some []) (F : FnG X.prog X.w X.K X.mg X.base CX k f fd ps sp) (hr : Room k X.A) (hb : Binds X.K fd ps ds) (hd : Vals dvs ds) (hx : Passes CX X E)
    (I : Inv X pins σ H s) (r : Vals vs us) (h : sp (vs ++ dvs) H Q E) : wpAny (model X.prog X.w) X.A (call (.ref f) us) (EP X pins σ Q) X.xe s := by
  have r2 : Vals (vs ++ dvs) (us ++ ds) := r.append hd
  have hl : (us ++ ds).length = ps.length := r2.length.symm.trans (F.len _ _ _ _ h)
  refine wpAny_call (codeAny_mono (F.run X.A X.stack s H ⟨us, []⟩ (us ++ ds) (vs ++ dvs) Q E gd hr I.env0 (hb s us I.kIn hl) r2 h) fun r s' hq => ?_)
  match r, hq with
  | .error e, hq => exact hx pins σ H s e s' I hq
  | .ok (.ret u), hq => exact I.after hq
  | .ok .next, hq => exact False.elim hq
  | .ok .brk, hq => exact False.elim hq
  | .ok .cont, hq => exact False.elim hq
theorem pe_callG (gd : X.A.guards = some []) (F : FnG X.prog X.w X.K X.mg X.base CX k f fd ps sp) (hr : Room k X.A) (hg : Gl X x) (hm : X.mg x = some (.ref f)) (hk : PySem.W.keepIn X.K (.ref f) = true) (hb : Binds X.K fd ps ds) (hd : Vals dvs ds) (hx : Passes CX X E)
    (ha : PA X (e :: es) t) (hdb : (x == ("__debug__" : Str)) = false := by decide) (he : starEach (e :: es) X.env = (false, eval e X.env) :: starEach es X.env := by rfl) (hpl : (backTo pos (starEach es X.env)).any (·.1) = false := by rfl) :
    PE X (.Call (.Name x p) (e :: es) [] pos) (tCall sp dvs E t) := by
  refine ⟨fun pins s σ H Q I h => wpAny_Call_Name_kw (ld_glob I hg hm ?_ hdb)⟩
  refine PySem.W.callWith_K (h₀ := X.base) I.ok.mod.kin hk (thn (ha.run pos pins s σ H _ I h) fun us s1 ⟨vs, H1, I1, r, q⟩ => ⟨I1.kIn, run_fnG gd F hr hb hd hx I1 r q⟩) he hpl
end
/-- what repr shows whole -/
structure Sh (d : PyData) : Prop where
  sh : d.showable = true
  nd : d.hasDict = false
  dp : d.depth ≤ 60
  ln : d.shown.length ≤ 16000000
theorem call_repr {X : Cx} (hg : X.A.guards = some []) (hu : X.A.units + 100 < cLine) : CallR X (.builtin "repr") (fun xs H Q => ∃ v d, xs = [v] ∧ Dp X.K H v d ∧ Sh d ∧ Q (.str d.shown) H) := by
  intro pins s σ H xs us Q I r h
  obtain ⟨v, d, rfl, hd, ⟨h1, h2, h3, h4⟩, q⟩ := h
  obtain ⟨u, rfl, ru⟩ := vals1 r
  obtain ⟨as, rd⟩ := Dp.reads I _ _ _ hd ru
  have big : (16000000 : Nat) ≤ sizeLine := by decide
  have ref : ∀ a, u = .ref a → wpAny (model X.prog X.w) X.A (call (.builtin "repr") [u]) (EP X pins σ Q) X.xe s := by
    rintro a rfl
    refine repr_of_reads' rd h1 (PyData.noDict_hsm h2) hg ?_ (fun _ _ e => e) (fun h' u tk hk => ⟨.str _, H, I.kept (t' := tk) hk, ⟨_, rfl⟩, q⟩) (by omega)
    show X.A.units + (d.depth + 1) < cLine
    omega
  cases hd with
  | non =>
    cases ru
    exact PySem.P.repr_of_none ⟨.str _, H, I.tok _, ⟨_, rfl⟩, q⟩
  | bl b =>
    cases ru
    exact PySem.P.repr_of_bool ⟨.str _, H, I.tok _, ⟨_, rfl⟩, q⟩
  | int i =>
    obtain ⟨t, rfl⟩ := ru
    exact PySem.P.repr_of_int (of_decide_eq_true h1) ⟨.str _, H, I.tok _, ⟨_, rfl⟩, q⟩
  | str x =>
    obtain ⟨t, rfl⟩ := ru
    exact PySem.P.repr_of_str ⟨.str _, H, I.tok _, ⟨_, rfl⟩, q⟩ (Nat.le_trans h4 big)
  | lst a b => cases ru; exact ref _ rfl
  | tup a b => cases ru; exact ref _ rfl
end Gg

namespace Mw
open PySem L2
theorem str_len (a b : Str) : (a ++ b).length = a.length + b.length := by
  show (a.cps ++ b.cps).size = _
  rw [Array.size_append]
  rfl
def T.dep : T → Nat
  | .nil => 0
  | .text _ r => r.dep
  | .shw _ r => r.dep
  | .num r => r.dep
  | .cho _ cs o r => max (max cs.dep o.dep + 1) r.dep
  | .cas _ m r => max m.dep r.dep
theorem dep_nodes : ∀ {t : T}, ∀ u ∈ t.nodes, u.dep ≤ t.dep
  | .nil, u, h => by cases h
  | .text s r, u, h => by
    rcases List.mem_cons.mp h with rfl | h
    · exact Nat.zero_le _
    · exact dep_nodes (t := r) u h
  | .shw s r, u, h => by
    rcases List.mem_cons.mp h with rfl | h
    · exact Nat.zero_le _
    · exact dep_nodes (t := r) u h
  | .num r, u, h => by
    rcases List.mem_cons.mp h with rfl | h
    · exact Nat.zero_le _
    · exact dep_nodes (t := r) u h
  | .cho hd cs o r, u, h => by
    rcases List.mem_cons.mp h with rfl | h
    · simp only [T.dep]
      omega
    · have := dep_nodes u h
      simp only [T.dep]
      omega
  | .cas k m r, u, h => by
    rcases List.mem_cons.mp h with rfl | h
    · simp only [T.dep]
      omega
    · have := dep_nodes u h
      simp only [T.dep]
      omega
theorem dep_msgs : ∀ {t : T}, ∀ m ∈ t.msgs, m.dep ≤ t.dep
  | .nil, u, h => by cases h
  | .text s r, u, h => by cases h
  | .shw s r, u, h => by cases h
  | .num r, u, h => by cases h
  | .cho hd cs o r, u, h => by cases h
  | .cas k m r, u, h => by
    rcases List.mem_cons.mp h with rfl | h
    · simp only [T.dep]
      omega
    · have := dep_msgs u h
      simp only [T.dep]
      omega
/-! ### a message as plain data: what == and repr look at -/
def vD : V → PyData
  | .str s => .str s
  | .int i => .int i
  | _ => .none
def dat : T → List PyData
  | .nil => []
  | .text s r => .tuple [.str "text", .str s] :: dat r
  | .shw n r => .tuple [.str "show", .str n] :: dat r
  | .num r => .tuple [.str "number"] :: dat r
  | .cho hd cs o r => .tuple (hd.map vD ++ [.list (dat cs), .list (dat o)]) :: dat r
  | .cas k m r => .tuple [vD k, .list (dat m)] :: dat r
/-- small leaves: texts of a few signs, small numbers -/
def VOk : V → Prop
  | .str s => PyData.strOk s = true ∧ (reprText s).length ≤ 12
  | .int i => 0 ≤ i ∧ i ≤ 999
  | _ => False
def SOk : T → Prop
  | .nil => True
  | .text s r => PyData.strOk s = true ∧ SOk r
  | .shw n r => VOk (.str n) ∧ SOk r
  | .num r => SOk r
  | .cho hd cs o r => (∀ v ∈ hd, VOk v) ∧ hd.length ≤ 3 ∧ SOk cs ∧ SOk o ∧ SOk r
  | .cas k m r => VOk k ∧ SOk m ∧ SOk r
theorem dp_flat {K : PySem.W.Frag} {H : Hp} {v : V} (h : VOk v) : Dp K H v (vD v) := by
  cases v with
  | str s => exact .str s
  | int i => exact .int i
  | _ => cases h
theorem dpa_app {K : PySem.W.Frag} {H : Hp} {ys : List V} {es : List PyData} (h' : DpAll K H ys es) : ∀ {xs : List V} {ds : List PyData}, DpAll K H xs ds → DpAll K H (xs ++ ys) (ds ++ es)
  | _, _, .nil => h'
  | _, _, .cons a b => .cons a (dpa_app h' b)
theorem dpa_flat {K : PySem.W.Frag} {H : Hp} : ∀ {hd : List V}, (∀ v ∈ hd, VOk v) → DpAll K H hd (hd.map vD)
  | [], _ => .nil
  | v :: r, h => .cons (dp_flat (h v (by simp))) (dpa_flat fun x hx => h x (List.mem_cons_of_mem _ hx))
theorem Nodes.dp {K : PySem.W.Frag} {H : Hp} : ∀ {t : T} {vs : List V}, Nodes H t vs → SOk t → DpAll K H vs (dat t)
  | .nil, _, h, _ => by rw [show _ = [] from h]; exact .nil
  | .text s r, _, h, w => by
    obtain ⟨p, ws, rfl, hp, hr⟩ := h
    exact .cons (.tup (.inl (.inl hp)) (.cons (.str _) (.cons (.str _) .nil))) (Nodes.dp hr w.2)
  | .shw n r, _, h, w => by
    obtain ⟨p, ws, rfl, hp, hr⟩ := h
    exact .cons (.tup (.inl (.inl hp)) (.cons (.str _) (.cons (.str _) .nil))) (Nodes.dp hr w.2)
  | .num r, _, h, w => by
    obtain ⟨p, ws, rfl, hp, hr⟩ := h
    exact .cons (.tup (.inl (.inl hp)) (.cons (.str _) .nil)) (Nodes.dp hr w)
  | .cho hd cs o r, _, h, w => by
    obtain ⟨p, ws, ca, cvs, oa, ovs, rfl, hp, hc, hcs, ho, hos, hr⟩ := h
    exact .cons (.tup (.inl (.inl hp)) (dpa_app (.cons (.lst (SqL.of hc) (Nodes.dp hcs w.2.2.1)) (.cons (.lst (SqL.of ho) (Nodes.dp hos w.2.2.2.1)) .nil)) (dpa_flat w.1))) (Nodes.dp hr w.2.2.2.2)
  | .cas k m r, _, h, w => by
    obtain ⟨p, ws, ma, mvs, rfl, hp, hm, hms, hr⟩ := h
    exact .cons (.tup (.inl (.inl hp)) (.cons (dp_flat w.1) (.cons (.lst (SqL.of hm) (Nodes.dp hms w.2.1)) .nil))) (Nodes.dp hr w.2.2)
theorem At.dp {K : PySem.W.Frag} {H : Hp} {a : Addr} {t : T} (h : At H a t) (w : SOk t) : Dp K H (.ref a) (.list (dat t)) := by
  obtain ⟨vs, h1, h2⟩ := h
  exact .lst (SqL.of h1) (h2.dp w)
theorem vd_ok {v : V} (h : VOk v) : (vD v).canLay0 = true ∧ (vD v).showable = true ∧ (vD v).hasDict = false ∧ (vD v).depth = 0 ∧ (vD v).shown.length ≤ 12 := by
  cases v with
  | str s =>
    exact ⟨h.1, rfl, rfl, rfl, h.2⟩
  | int i =>
    have hi : ∀ n : Fin 1000, (PyData.int ((n : Nat) : Int)).showable = true ∧ (PyData.int ((n : Nat) : Int)).shown.length ≤ 12 := by decide +kernel
    have hi : (PyData.int i).showable = true ∧ (PyData.int i).shown.length ≤ 12 := by
      have := hi ⟨i.toNat, by have := h.1; have := h.2; omega⟩
      rw [show ((i.toNat : Nat) : Int) = i by have := h.1; omega] at this
      exact this
    exact ⟨rfl, hi.1, rfl, rfl, hi.2⟩
  | _ => cases h
theorem hd_ok : ∀ {hd : List V}, (∀ v ∈ hd, VOk v) → PyData.canLayAll0 (hd.map vD) = true ∧ PyData.showableAll (hd.map vD) = true ∧ PyData.hasDictAll (hd.map vD) = false ∧ PyData.depthAll (hd.map vD) = 0
  | [], _ => ⟨rfl, rfl, rfl, rfl⟩
  | v :: r, h => by
    obtain ⟨a1, a2, a3, a4, _⟩ := vd_ok (h v (by simp))
    obtain ⟨b1, b2, b3, b4⟩ := hd_ok (hd := r) fun x hx => h x (List.mem_cons_of_mem _ hx)
    refine ⟨?_, ?_, ?_, ?_⟩
    · simp only [List.map_cons, PyData.canLayAll0, a1, b1, Bool.and_self]
    · simp only [List.map_cons, PyData.showableAll, a2, b2, Bool.and_self]
    · simp only [List.map_cons, PyData.hasDictAll, a3, b3, Bool.or_self]
    · simp only [List.map_cons, PyData.depthAll, a4, b4, Nat.max_self]
theorem cl_app : ∀ (xs ys : List PyData), PyData.canLayAll0 (xs ++ ys) = (PyData.canLayAll0 xs && PyData.canLayAll0 ys)
  | [], _ => rfl
  | x :: xs, ys => by simp only [List.cons_append, PyData.canLayAll0, cl_app xs ys, Bool.and_assoc]
theorem sh_app : ∀ (xs ys : List PyData), PyData.showableAll (xs ++ ys) = (PyData.showableAll xs && PyData.showableAll ys)
  | [], _ => rfl
  | x :: xs, ys => by simp only [List.cons_append, PyData.showableAll, sh_app xs ys, Bool.and_assoc]
theorem hs_app : ∀ (xs ys : List PyData), PyData.hasDictAll (xs ++ ys) = (PyData.hasDictAll xs || PyData.hasDictAll ys)
  | [], _ => rfl
  | x :: xs, ys => by simp only [List.cons_append, PyData.hasDictAll, hs_app xs ys, Bool.or_assoc]
theorem dp_app : ∀ (xs ys : List PyData), PyData.depthAll (xs ++ ys) = max (PyData.depthAll xs) (PyData.depthAll ys)
  | [], _ => by simp [PyData.depthAll]
  | x :: xs, ys => by simp only [List.cons_append, PyData.depthAll, dp_app xs ys, Nat.max_assoc]
theorem sa_app : ∀ (xs ys : List PyData), PyData.shownAll (xs ++ ys) = PyData.shownAll xs ++ PyData.shownAll ys
  | [], _ => rfl
  | x :: xs, ys => by simp only [List.cons_append, PyData.shownAll, sa_app xs ys]
theorem dat_ok : ∀ {t : T}, SOk t → PyData.canLayAll0 (dat t) = true ∧ PyData.showableAll (dat t) = true ∧ PyData.hasDictAll (dat t) = false
  | .nil, _ => ⟨rfl, rfl, rfl⟩
  | .text s r, w => by
    obtain ⟨a1, a2, a3⟩ := dat_ok w.2
    have h : PyData.strOk ("text" : Str) = true := by decide +kernel
    refine ⟨?_, ?_, ?_⟩
    · simp only [dat, PyData.canLayAll0, PyData.canLay0, h, w.1, a1, Bool.and_self]
    · simp only [dat, PyData.showableAll, PyData.showable, a2, Bool.and_self]
    · simp only [dat, PyData.hasDictAll, PyData.hasDict, a3, Bool.or_self]
  | .shw n r, w => by
    obtain ⟨a1, a2, a3⟩ := dat_ok w.2
    have h : PyData.strOk ("show" : Str) = true := by decide +kernel
    have h2 : PyData.strOk n = true := w.1.1
    refine ⟨?_, ?_, ?_⟩
    · simp only [dat, PyData.canLayAll0, PyData.canLay0, h, h2, a1, Bool.and_self]
    · simp only [dat, PyData.showableAll, PyData.showable, a2, Bool.and_self]
    · simp only [dat, PyData.hasDictAll, PyData.hasDict, a3, Bool.or_self]
  | .num r, w => by
    obtain ⟨a1, a2, a3⟩ := dat_ok (t := r) w
    have h : PyData.strOk ("number" : Str) = true := by decide +kernel
    refine ⟨?_, ?_, ?_⟩
    · simp only [dat, PyData.canLayAll0, PyData.canLay0, h, a1, Bool.and_self]
    · simp only [dat, PyData.showableAll, PyData.showable, a2, Bool.and_self]
    · simp only [dat, PyData.hasDictAll, PyData.hasDict, a3, Bool.or_self]
  | .cho hd cs o r, w => by
    obtain ⟨a1, a2, a3⟩ := dat_ok w.2.2.2.2
    obtain ⟨b1, b2, b3⟩ := dat_ok w.2.2.1
    obtain ⟨c1, c2, c3⟩ := dat_ok w.2.2.2.1
    obtain ⟨d1, d2, d3, _⟩ := hd_ok w.1
    refine ⟨?_, ?_, ?_⟩
    · simp only [dat, PyData.canLayAll0, PyData.canLay0, cl_app, a1, b1, c1, d1, Bool.and_self]
    · simp only [dat, PyData.showableAll, PyData.showable, sh_app, a2, b2, c2, d2, Bool.and_self]
    · simp only [dat, PyData.hasDictAll, PyData.hasDict, hs_app, a3, b3, c3, d3, Bool.or_self]
  | .cas k m r, w => by
    obtain ⟨a1, a2, a3⟩ := dat_ok w.2.2
    obtain ⟨b1, b2, b3⟩ := dat_ok w.2.1
    obtain ⟨d1, d2, d3, _⟩ := vd_ok w.1
    refine ⟨?_, ?_, ?_⟩
    · simp only [dat, PyData.canLayAll0, PyData.canLay0, a1, b1, d1, Bool.and_self]
    · simp only [dat, PyData.showableAll, PyData.showable, a2, b2, d2, Bool.and_self]
    · simp only [dat, PyData.hasDictAll, PyData.hasDict, a3, b3, d3, Bool.or_self]
theorem dat_depth : ∀ {t : T} {c : Bool}, Wf t c → SOk t → PyData.depthAll (dat t) ≤ 4 * t.dep + (if c then 3 else 1)
  | .nil, c, _, _ => Nat.zero_le _
  | .text s r, c, w, s' => by
    have hc := w.1
    subst hc
    have h := dat_depth w.2 s'.2
    simp only [dat, PyData.depthAll, PyData.depth, T.dep, Bool.false_eq_true, if_false] at h ⊢
    omega
  | .shw n r, c, w, s' => by
    have hc := w.1
    subst hc
    have h := dat_depth w.2 s'.2
    simp only [dat, PyData.depthAll, PyData.depth, T.dep, Bool.false_eq_true, if_false] at h ⊢
    omega
  | .num r, c, w, s' => by
    have hc := w.1
    subst hc
    have h := dat_depth w.2 (show SOk r from s')
    simp only [dat, PyData.depthAll, PyData.depth, T.dep, Bool.false_eq_true, if_false] at h ⊢
    omega
  | .cho hd cs o r, c, w, s' => by
    have hc := w.1
    subst hc
    have h1 := dat_depth w.2.2.1 s'.2.2.1
    have h2 := dat_depth w.2.2.2.1 s'.2.2.2.1
    have h3 := dat_depth w.2.2.2.2 s'.2.2.2.2
    obtain ⟨_, _, _, h4⟩ := hd_ok s'.1
    simp only [dat, PyData.depthAll, PyData.depth, T.dep, dp_app, h4]
    simp only [if_true, Bool.false_eq_true, if_false] at h1 h2 h3 ⊢
    omega
  | .cas k m r, c, w, s' => by
    have h1 := dat_depth w.2.2.1 s'.2.1
    have h3 := dat_depth w.2.2.2 s'.2.2
    obtain ⟨_, _, _, h4, _⟩ := vd_ok s'.1
    have hc := w.1
    subst hc
    simp only [dat, PyData.depthAll, PyData.depth, T.dep, h4]
    simp only [if_true, Bool.false_eq_true, if_false] at h1 h3 ⊢
    omega
/-! ### how long repr is -/
def slen (ts : List Str) : Nat := (ts.map fun t => t.length + 2).sum
theorem from_len : ∀ (ts : List Str) (k : Nat) (acc : Str), (textFrom k acc ts).length ≤ acc.length + slen ts
  | [], _, acc => Nat.le_refl _
  | t :: r, k, acc => by
    have h := from_len r (k + 1) (acc ++ (if k > 0 then ", " else "" : String) ++ t)
    rw [str_len, str_len] at h
    have e : (Str.ofString (if k > 0 then ", " else "" : String)).length ≤ 2 := by
      split <;> decide +kernel
    show (textFrom (k + 1) (acc ++ (if k > 0 then ", " else "" : String) ++ t) r).length ≤ acc.length + (t.length + 2 + slen r)
    omega
theorem list_len (ts : List Str) : (listText ts).length ≤ slen ts + 2 := by
  have h := from_len ts 0 ("[" : Str)
  have e1 : ("[" : Str).length = 1 := by decide +kernel
  have e2 : ("]" : Str).length = 1 := by decide +kernel
  show (textFrom 0 ("[" : Str) ts ++ ("]" : Str)).length ≤ _
  rw [str_len]
  omega
theorem sum_two : ∀ ts : List Str, (ts.map (·.length)).sum + ts.length * 2 = slen ts
  | [] => rfl
  | t :: r => by
    have := sum_two r
    show t.length + (r.map (·.length)).sum + (r.length + 1) * 2 = t.length + 2 + slen r
    omega
theorem tup_len (ts : List Str) : (tupleText ts).length ≤ slen ts + 3 := by
  have h := StrLaws.join_length_le (", " : Str) ts
  have e0 : (", " : Str).length = 2 := by decide +kernel
  have e1 : ("(" : Str).length = 1 := by decide +kernel
  have e2 : (Str.ofString (if ts.length == 1 then ",)" else ")" : String)).length ≤ 2 := by
    split <;> decide +kernel
  rw [e0, sum_two] at h
  show (("(" : Str) ++ Str.join (", " : Str) ts ++ Str.ofString (if ts.length == 1 then ",)" else ")" : String)).length ≤ _
  rw [str_len, str_len]
  omega
theorem slen_app (xs ys : List Str) : slen (xs ++ ys) = slen xs + slen ys := by
  unfold slen
  rw [List.map_append, List.sum_append]
theorem hd_len : ∀ {hd : List V}, (∀ v ∈ hd, VOk v) → slen (PyData.shownAll (hd.map vD)) ≤ 14 * hd.length
  | [], _ => Nat.le_refl _
  | v :: r, h => by
    have h1 := hd_len (hd := r) fun x hx => h x (List.mem_cons_of_mem _ hx)
    obtain ⟨_, _, _, _, h2⟩ := vd_ok (h v (by simp))
    show (vD v).shown.length + 2 + slen (PyData.shownAll (r.map vD)) ≤ 14 * (r.length + 1)
    omega
end Mw

namespace Mw
open PySem L2
def KU : List V := [.int 0, .int 1, .int 3, .int 7, .str "one", .str "few", .str "many", .str "he", .str "she", .str "other", .str "it"]
/-- keys are apart -/
def Kd : T → Prop
  | .nil => True
  | .text _ r => Kd r
  | .shw _ r => Kd r
  | .num r => Kd r
  | .cho _ cs o r => (∀ k ∈ cs.keys, k ∈ KU ∧ k ≠ .str "other") ∧ cs.keys.Nodup ∧ Kd cs ∧ Kd o ∧ Kd r
  | .cas _ m r => Kd m ∧ Kd r
theorem txt_len {s : Str} (h : PyData.strOk s = true) : (reprText s).length ≤ 10 * s.length + 2 :=
  PySem.StrLaws.reprText_len s fun c hc => by
    unfold PyData.strOk at h
    rw [Array.all_eq_true'] at h
    have := of_decide_eq_true (h c (by simpa using hc))
    omega
theorem slen_cons (t : Str) (r : List Str) : slen (t :: r) = t.length + 2 + slen r := rfl
theorem slen_nil : slen [] = 0 := rfl
theorem dat_len : ∀ {t : T}, SOk t → slen (PyData.shownAll (dat t)) ≤ 60 * t.sz
  | .nil, _ => Nat.le_refl _
  | .text s r, w => by
    have h := dat_len w.2
    have h1 := txt_len w.1
    have h2 : (reprText ("text" : Str)).length ≤ 10 := by decide +kernel
    have h3 := tup_len [reprText ("text" : Str), reprText s]
    simp only [dat, PyData.shownAll, slen_cons, slen_nil, PyData.shown, T.sz] at h3 ⊢
    omega
  | .shw n r, w => by
    have h := dat_len w.2
    have h1 : (reprText n).length ≤ 12 := w.1.2
    have h2 : (reprText ("show" : Str)).length ≤ 10 := by decide +kernel
    have h3 := tup_len [reprText ("show" : Str), reprText n]
    simp only [dat, PyData.shownAll, slen_cons, slen_nil, PyData.shown, T.sz] at h3 ⊢
    omega
  | .num r, w => by
    have h := dat_len (t := r) w
    have h2 : (reprText ("number" : Str)).length ≤ 10 := by decide +kernel
    have h3 := tup_len [reprText ("number" : Str)]
    simp only [dat, PyData.shownAll, slen_cons, slen_nil, PyData.shown, T.sz] at h3 ⊢
    omega
  | .cho hd cs o r, w => by
    have h := dat_len w.2.2.2.2
    have h1 := dat_len w.2.2.1
    have h2 := dat_len w.2.2.2.1
    have h0 := hd_len w.1
    have hl := w.2.1
    have a1 := list_len (PyData.shownAll (dat cs))
    have a2 := list_len (PyData.shownAll (dat o))
    have h3 := tup_len (PyData.shownAll (hd.map vD) ++ [listText (PyData.shownAll (dat cs)), listText (PyData.shownAll (dat o))])
    simp only [dat, PyData.shownAll, slen_cons, slen_nil, PyData.shown, T.sz, sa_app, slen_app] at h3 ⊢
    omega
  | .cas k m r, w => by
    have h := dat_len w.2.2
    have h1 := dat_len w.2.1
    obtain ⟨_, _, _, _, h0⟩ := vd_ok w.1
    have a1 := list_len (PyData.shownAll (dat m))
    have h3 := tup_len [(vD k).shown, listText (PyData.shownAll (dat m))]
    simp only [dat, PyData.shownAll, slen_cons, slen_nil, PyData.shown, T.sz] at h3 ⊢
    omega
theorem menu_ok {s : Str} (h : s ∈ menu) : PyData.strOk s = true := by
  have a : ∀ s ∈ menu, PyData.strOk s = true := by decide +kernel
  exact a s h
theorem keys_ok : (∀ v ∈ skeys, VOk v ∧ KeyW v ∧ v ∈ KU ∧ v ≠ .str "other") ∧ ∀ v ∈ pkeys, VOk v ∧ KeyW v ∧ v ∈ KU ∧ v ≠ .str "other" := by
  have s : ∀ x : Str, x ∈ (["he", "she", "one", "few", "many"] : List Str) → VOk (.str x) ∧ KeyW (.str x) ∧ V.str x ∈ KU ∧ V.str x ≠ .str "other" := by
    intro x hx
    refine ⟨?_, .inl ⟨_, rfl⟩, ?_, fun e => ?_⟩
    · have a : ∀ x ∈ (["he", "she", "one", "few", "many"] : List Str), PyData.strOk x = true ∧ (reprText x).length ≤ 12 := by decide +kernel
      exact a x hx
    · simp only [List.mem_cons, List.not_mem_nil, or_false] at hx
      rcases hx with rfl | rfl | rfl | rfl | rfl <;> simp [KU]
    · have a : ∀ x ∈ (["he", "she", "one", "few", "many"] : List Str), x ≠ "other" := by decide +kernel
      exact a x hx (str_eq e)
  have n : ∀ i : Int, i = 0 ∨ i = 1 ∨ i = 3 → VOk (.int i) ∧ KeyW (.int i) ∧ V.int i ∈ KU ∧ V.int i ≠ .str "other" := by
    rintro i (rfl | rfl | rfl) <;> exact ⟨⟨by decide, by decide⟩, .inr ⟨_, rfl⟩, by simp [KU], by intro z; cases z⟩
  constructor
  · intro v hv
    simp only [skeys, wordsL, List.map_cons, List.map_nil, List.mem_cons, List.not_mem_nil, or_false] at hv
    rcases hv with rfl | rfl <;> exact s _ (by simp)
  · intro v hv
    simp only [pkeys, List.mem_cons, List.not_mem_nil, or_false] at hv
    rcases hv with rfl | rfl | rfl | rfl | rfl | rfl
    · exact n 0 (by simp)
    · exact n 1 (by simp)
    · exact n 3 (by simp)
    · exact s _ (by simp)
    · exact s _ (by simp)
    · exact s _ (by simp)
theorem nodup_s : skeys.Nodup ∧ pkeys.Nodup := by
  constructor <;> simp [skeys, wordsL, pkeys] <;> decide
theorem hdok_all {hd ks : List V} {i j : Bool} (h : HdOk hd i j ks) : HdW hd ∧ (∀ v ∈ hd, VOk v) ∧ hd.length ≤ 3 ∧ (∀ v ∈ ks, VOk v ∧ KeyW v ∧ v ∈ KU ∧ v ≠ .str "other") ∧ ks.Nodup := by
  have w : ∀ x : Str, x ∈ (["select", "w", "plural", "m", "n"] : List Str) → VOk (.str x) := by
    intro x hx
    have a : ∀ x ∈ (["select", "w", "plural", "m", "n"] : List Str), PyData.strOk x = true ∧ (reprText x).length ≤ 12 := by decide +kernel
    exact a x hx
  cases h with
  | sel hk =>
    refine ⟨.inl ⟨_, rfl⟩, fun v hv => ?_, by simp, fun v hv => keys_ok.1 v (hk.subset hv), nodup_s.1.sublist hk⟩
    simp only [List.mem_cons, List.not_mem_nil, or_false] at hv
    rcases hv with rfl | rfl <;> exact w _ (by simp)
  | plu hn ho hk =>
    refine ⟨.inr ⟨_, _, rfl⟩, fun v hv => ?_, by simp, fun v hv => keys_ok.2 v (hk.subset hv), nodup_s.2.sublist hk⟩
    simp only [List.mem_cons, List.not_mem_nil, or_false] at hv
    rcases hv with rfl | rfl | rfl
    · exact w _ (by simp)
    · simp only [numsL, List.mem_cons, List.not_mem_nil, or_false] at hn
      rcases hn with rfl | rfl | rfl <;> exact w _ (by simp)
    · rcases ho with rfl | rfl | rfl <;> exact ⟨by decide, by decide⟩
theorem Gd.all : ∀ {t : T} {c : Bool} {d : Nat} {i : Bool}, Gd t c d i → (c = true → ∀ v ∈ t.keys, VOk v ∧ KeyW v) → Wf t c ∧ SOk t ∧ t.dep ≤ d ∧ Kd t
  | .nil, _, _, _, _, _ => ⟨trivial, trivial, Nat.zero_le _, trivial⟩
  | .text s r, c, d, i, h, k => by
    obtain ⟨a, b, e, f⟩ := Gd.all (t := r) h.2.2 fun hc => by
      rw [h.1] at hc
      cases hc
    exact ⟨⟨h.1, a⟩, ⟨menu_ok h.2.1, b⟩, e, f⟩
  | .shw n r, c, d, i, h, k => by
    obtain ⟨a, b, e, f⟩ := Gd.all (t := r) h.2.2 fun hc => by
      rw [h.1] at hc
      cases hc
    have w : ∀ x ∈ shows3, PyData.strOk x = true ∧ (reprText x).length ≤ 12 := by decide +kernel
    exact ⟨⟨h.1, a⟩, ⟨w n h.2.1, b⟩, e, f⟩
  | .num r, c, d, i, h, k => by
    obtain ⟨a, b, e, f⟩ := Gd.all (t := r) h.2.2 fun hc => by
      rw [h.1] at hc
      cases hc
    exact ⟨⟨h.1, a⟩, b, e, f⟩
  | .cho hd cs o r, c, d, i, h, k => by
    obtain ⟨h1, ⟨e', j, he, hh, g1, g2⟩, h3⟩ := h
    obtain ⟨w1, w2, w3, w4, w5⟩ := hdok_all hh
    obtain ⟨a, b, e, f⟩ := Gd.all (t := r) h3 fun hc => by
      rw [h1] at hc
      cases hc
    obtain ⟨a1, b1, e1, f1⟩ := Gd.all g1 fun _ v hv => ⟨(w4 v hv).1, (w4 v hv).2.1⟩
    obtain ⟨a2, b2, e2, f2⟩ := Gd.all g2 fun hc => by cases hc
    refine ⟨⟨h1, w1, a1, a2, a⟩, ⟨w2, w3, b1, b2, b⟩, ?_, ⟨fun x hx => ⟨(w4 x hx).2.2.1, (w4 x hx).2.2.2⟩, w5, f1, f2, f⟩⟩
    simp only [T.dep]
    omega
  | .cas kk m r, c, d, i, h, k => by
    obtain ⟨a, b, e, f⟩ := Gd.all (t := r) h.2.2 fun hc v hv => k hc v (List.mem_cons_of_mem _ hv)
    obtain ⟨a1, b1, e1, f1⟩ := Gd.all h.2.1 fun hc => by cases hc
    have kk' := k h.1 kk (by simp [T.keys])
    refine ⟨⟨h.1, kk'.2, a1, a⟩, ⟨kk'.1, b1, b⟩, ?_, f1, f⟩
    simp only [T.dep]
    omega
end Mw

namespace Mw
open PySem L2 Gg
/-! ### data that repr shows -/
theorem sh_msg {t : T} (hs : SOk t) (hw : Wf t false) (hd : t.dep ≤ 10) (hz : t.sz ≤ 100000) : Sh (.list (dat t)) := by
  obtain ⟨_, h2, h3⟩ := dat_ok hs
  have h4 := dat_depth hw hs
  simp only [Bool.false_eq_true, if_false] at h4
  have h5 := dat_len hs
  have h6 := list_len (PyData.shownAll (dat t))
  exact ⟨h2, h3, show PyData.depthAll (dat t) + 1 ≤ 60 by omega, show (listText (PyData.shownAll (dat t))).length ≤ _ by omega⟩
theorem sh_one {t : T} (hs : SOk t) (hw : Wf t false) (hd : t.dep ≤ 10) (hz : t.sz ≤ 100000) : Sh (.list [.list (dat t)]) := by
  obtain ⟨_, h2, h3⟩ := dat_ok hs
  have h4 := dat_depth hw hs
  simp only [Bool.false_eq_true, if_false] at h4
  have h5 := dat_len hs
  have h6 := list_len (PyData.shownAll (dat t))
  have h7 := list_len [listText (PyData.shownAll (dat t))]
  refine ⟨?_, ?_, ?_, ?_⟩
  · show (PyData.showableAll (dat t) && true) = true
    rw [h2]
    rfl
  · show (PyData.hasDictAll (dat t) || false) = false
    rw [h3]
    rfl
  · show max (PyData.depthAll (dat t) + 1) 0 + 1 ≤ 60
    omega
  · show (listText [listText (PyData.shownAll (dat t))]).length ≤ _
    rw [slen_cons, slen_nil] at h7
    omega
theorem sh_nil : Sh (.list []) := ⟨rfl, rfl, by decide, by decide +kernel⟩
theorem ku_vok {k : V} (h : k ∈ KU) : VOk k := by
  have a : ∀ x ∈ (["one", "few", "many", "he", "she", "other", "it"] : List Str), PyData.strOk x = true ∧ (reprText x).length ≤ 12 := by decide +kernel
  simp only [KU, List.mem_cons, List.not_mem_nil, or_false] at h
  rcases h with rfl | rfl | rfl | rfl | rfl | rfl | rfl | rfl | rfl | rfl | rfl <;> first | exact ⟨by decide, by decide⟩ | exact a _ (by simp)
theorem sh_key {k : V} (h : k ∈ KU) : Sh (vD k) := by
  obtain ⟨_, h2, h3, h4, h5⟩ := vd_ok (ku_vok h)
  exact ⟨h2, h3, by omega, by omega⟩
/-- what tells keys apart -/
theorem ku_shown {a b : V} (ha : a ∈ KU) (hb : b ∈ KU) : decide (V.str (vD a).shown = V.str (vD b).shown) = decide (a = b) := by
  have key : ∀ a ∈ KU, ∀ b ∈ KU, a ≠ b → (vD a).shown ≠ (vD b).shown := by
    intro a ha b hb
    simp only [KU, List.mem_cons, List.not_mem_nil, or_false] at ha hb
    rcases ha with rfl | rfl | rfl | rfl | rfl | rfl | rfl | rfl | rfl | rfl | rfl <;> rcases hb with rfl | rfl | rfl | rfl | rfl | rfl | rfl | rfl | rfl | rfl | rfl <;>
      first | (intro h; exact absurd rfl h) | (intro _; simp only [vD]; decide +kernel)
  by_cases e : a = b
  · subst e
    rw [decide_eq_true rfl, decide_eq_true rfl]
  · rw [decide_eq_false e, decide_eq_false fun z => key a ha b hb e (str_eq z)]
theorem slen_le {ts : List Str} {n : Nat} (h : ∀ t ∈ ts, t.length ≤ n) : slen ts ≤ ts.length * (n + 2) := by
  induction ts with
  | nil => exact Nat.zero_le _
  | cons t ts ih =>
    rw [slen_cons, List.length_cons, Nat.add_mul, Nat.one_mul]
    have h1 := h t (by simp)
    have h2 := ih fun x hx => h x (List.mem_cons_of_mem _ hx)
    omega
section
variable {P : Program} {w : World} {K : PySem.W.Frag} {mg : Str → Option Value} {base : Heap}
abbrev sSame : Stmt := top 42
theorem scSame : FnScope ["one", "other"] ["one", "other"] (defScope sSame) := ⟨rfl, rfl, rfl, by decide +kernel, rfl, by decide +kernel, by decide +kernel⟩
def spSame (K : PySem.W.Frag) : Sp := fun vs H Q _ => ∃ (v1 v2 : V) (d1 d2 : PyData), vs = [v1, v2] ∧ Dp K H v1 d1 ∧ Dp K H v2 d2 ∧ Sh d1 ∧ Sh d2 ∧ Q (.bl (decide (V.str d1.shown = V.str d2.shown))) H
theorem ok_same {f : Addr} {fd : FuncData} (F : Fun K "_law_same" "_law_same" sSame f fd) (mRepr : mg "repr" = none) : FnG P w K mg base CX0 1 f fd ["one", "other"] (spSame K) := by
  refine okG F scSame (fun vs H Q E h => ?_) (fun A cdv outer s H vs Q E gd hr h => ?_)
  · obtain ⟨v1, v2, d1, d2, rfl, _⟩ := h
    rfl
  obtain ⟨v1, v2, d1, d2, rfl, h1, h2, s1, s2, q⟩ := h
  have hu : (A.deeper (PyProof.Rows.envOfC "_law_same" (defScope sSame) s.heap.objs.size f cdv)).units + 100 < cLine := by
    have := hr.un
    omega
  refine ⟨_, (pss_one (ps_ret (pe_cmpR op_eq (pe_callB (Gg.call_repr gd hu) (by rfl) mRepr (by decide +kernel) (pa_cons (pv 0) pa_nil)) (pe_callB (Gg.call_repr gd hu) (by rfl) mRepr (by decide +kernel) (pa_cons (pv 1) pa_nil)) (nomark _)))), ?_⟩
  exact ⟨_, rfl, _, _, rfl, h1, s1, _, rfl, _, _, rfl, h2, s2, rfl, q⟩
end
end Mw

/-! ### tuples: a slice that may be the whole, a sum whose left side may be empty, once a tuple -/
namespace Ts
open PySem L2 PyProof.Rows PySem.Spec
section
variable {s : Shared} {prog : Program} {w : World} {A : Around} {E : Value → Shared → Prop}
theorem whole {t sl : Addr} {items : Array Value} {vl vu : Value} {lo hi : Option Int} {Q : Value → Shared → Prop} (ht : IsTup s.heap t items) (hs : s.heap.IsSliceOf sl vl vu .none) (pl : IsPart vl lo) (pu : IsPart vu hi)
    (hl : HT.sIx items.size 0 lo = 0) (hh : HT.sIx items.size items.size hi = items.size) (h : Q (.ref t) s) : wpAny (model prog w) A (getItem (.ref t) (.ref sl)) Q E s := by
  obtain ⟨os, so1, so2, so3⟩ := id hs
  have tys : s.TypeIs (.ref sl) "slice" := ⟨os, so1, so2⟩
  unfold getItem
  try (with_reducible refine wpAny_holding ?_)
  try refine wpAny_bind (wpAny_pure ?_)
  refine wpAny_bind (wpAny_sequenceKey ht.typeIs (by decide) (wpAny_bind (wpAny_callSpecial?_slot (name := Str.ofString "__getitem__") ht.typeIs slot_tuple_getitem
    (wpAny_call_entry slot_tuple_getitem ht.typeIs entry_tuple_getitem ?_ (args_tuple_getitem _ _)))))
  (show wpAny _ _ (Builtin.Tuple.tupleItemsOf (.ref t) >>= _) _ _ s); refine wpAny_bind (tupleItemsOf_ ht (wpAny_bind (wpAny_typeOf tys ?_)))
  rw [if_pos (by decide)]
  refine wpAny_bind (HT.sliceApplied_gen hs pl pu ?_)
  have hyes : (((HT.sIx items.size 0 lo : Nat) : Int) == 0 && (1 : Int) == 1 && (HT.sIx items.size items.size hi - HT.sIx items.size 0 lo) == items.size) = true := by
    rw [hl, hh]
    simp
  show wpAny _ _ (if (((HT.sIx items.size 0 lo : Nat) : Int) == 0 && (1 : Int) == 1 && (HT.sIx items.size items.size hi - HT.sIx items.size 0 lo) == items.size) = true then _ else _) _ _ s
  rw [if_pos hyes]
  unfold Builtin.Tuple.tupleIsExact
  refine wpAny_bind (wpAny_bind (wpAny_typeOf ht.typeIs (wpAny_pure ?_)))
  rw [if_pos (by decide)]
  first
    | exact wpAny_bind (wpAny_pure (wpAny_pure ⟨_, rfl, wpAny_pure h⟩))
    | (wp_walk; exact ⟨_, rfl, wpAny_pure h⟩)
theorem rep1 (l : Addr) (items : Array Value) (n : Nat) (dd : Option Addr) (sl : Array (Option Value)) (u : Tok) :
    Meets (Builtin.«tuple.__mul__» ⟨[.ref l, .int 1 u], []⟩) (fun _ R s => s.heap.get? l = some { cls := .type "tuple", dict := dd, data := .seq items n, slots := sl } ∧ R (.ok (.ret (Value.ref l))) s) :=
  .of_wp fun _ _ _ R sh h => by
    obtain ⟨hp, g, d, tk, os⟩ := sh; obtain ⟨hl, h⟩ := h
    have f1 := AutoSeq1.idx_int
    have c0 : (decide ((1 : Int) < -(2 ^ 63)) || decide ((1 : Int) ≥ 2 ^ 63)) = false := by decide
    have c1 : (items.isEmpty || (1 : Int) == 1) = true := by simp
    wp_walk using wpAny_loadPart' hl; exact ⟨_, rfl, h⟩
end
/-- what a tuple's slice is, the whole or less -/
def rSl (K : PySem.W.Frag) : V → Option Int → Option Int → Hp → VK → Prop := fun x lo hi H Q => ∃ a xs, x = .ref a ∧ SqT K H a xs ∧ ∀ p H', Same H H' → SqT K H' p (cutV xs lo hi) → Q (.ref p) H'
section
variable {X : Cx}
theorem sl : SlR X (rSl X.K) := by
  intro pn s σ H x v vl vu lo hi sp Q Iv rx hs pl pu hh
  obtain ⟨a, xs, rfl, hxs, q⟩ := hh
  by_cases hw : (HT.sIx xs.length 0 lo = 0) ∧ (HT.sIx xs.length xs.length hi = xs.length)
  · cases rx
    obtain ⟨ws1, r, ht, hbd⟩ := Iv.tuple hxs
    have eln : ws1.toArray.size = xs.length := by rw [List.size_toArray]; exact r.length.symm
    refine ⟨"tuple", _, PyProof.Rows.slot_tuple_getitem.lookup, ht.typeIs, whole ht hs pl pu (by rw [eln]; exact hw.1) (by rw [eln]; exact hw.2) ⟨.ref a, H, Iv, rfl, q a H (fun _ _ h => h) ?_⟩⟩
    have e : cutV xs lo hi = xs := by
      unfold cutV
      rw [hw.1, hw.2]
      simp
    rw [e]
    exact hxs
  · exact sl_tup pn s σ H _ v vl vu lo hi sp Q Iv rx hs pl pu ⟨a, xs, rfl, hxs, hw, fun p hp => q p _ (fun b o h => by rw [upd_ne (ne_of_none h hp)]; exact h) (SqT.of upd_same)⟩
/-- a sum of tuples -/
def rCat (K : PySem.W.Frag) : R2 := fun x y H Q => ∃ a b xs ys, x = .ref a ∧ y = .ref b ∧ SqT K H a xs ∧ SqT K H b ys ∧ xs.length + ys.length ≤ sizeLine ∧ ∀ p H', Same H H' → SqT K H' p (xs ++ ys) → Q (.ref p) H'
theorem cat : OpR X (binaryOp .Add) (rCat X.K) := by
  intro pn s σ H x y v u Q Iv rx ry hh
  obtain ⟨a, b, xs, ys, rfl, rfl, hta, hb, hbd, q⟩ := hh
  by_cases hxs : xs = []
  · subst hxs
    cases rx
    cases ry
    obtain ⟨ws1, rv1, p1, _⟩ := Iv.tuple hta
    obtain ⟨ws2, rv2, p2, _⟩ := Iv.tuple hb
    cases rv1
    obtain ⟨⟨cls, dd, data, sl⟩, ho, hc, n, hdt⟩ := id p1
    obtain ⟨⟨cls2, dd2, data2, sl2⟩, ho2, hc2, n2, hd2⟩ := id p2
    simp only at hc hdt hc2 hd2
    subst hc hdt hc2 hd2
    exact concat_meets ⟨_, ho, rfl⟩ ⟨_, ho2, rfl⟩ noFill_tuple_add seq_tuple_add PySem.F.slot_tuple_add PySem.F.entry_tuple_add (PySem.F.args_tuple_add_2 _ _) (tuple_addW0 a b _ ws2.toArray n n2 dd dd2 sl sl2 (by simp)) ⟨ho, ho2, ⟨.ref b, H, Iv, rfl, q b H (fun _ _ h => h) hb⟩⟩
  · refine op_catT pn s σ H _ _ v u Q Iv rx ry ⟨a, b, xs, ys, rfl, rfl, hta, hb, hxs, hbd, fun e => q a H (fun _ _ h => h) (by rw [e, List.append_nil]; exact hta), fun _ p hp => q p _ (fun b o h => by rw [upd_ne (ne_of_none h hp)]; exact h) (SqT.of upd_same)⟩
/-- a tuple some times -/
def rRep (K : PySem.W.Frag) : R2 := fun x y H Q => ∃ l k xs, x = .ref l ∧ y = .int k ∧ SqT K H l xs ∧ xs ≠ [] ∧ 1 ≤ k ∧ k ≤ 1000 ∧ xs.length ≤ 1000 ∧ ∀ p H', Same H H' → SqT K H' p (List.replicate k.toNat xs).flatten → Q (.ref p) H'
theorem rep : OpR X (binaryOp .Mult) (rRep X.K) := by
  intro pn s σ H x y v u Q Iv rx ry hh
  obtain ⟨l, k, xs, rfl, rfl, hTu, hnn, h1, h2, hbd, q⟩ := hh
  by_cases hk : k = 1
  · subst hk
    cases rx
    obtain ⟨t, rfl⟩ := ry
    obtain ⟨ws1, r, ⟨⟨cls, dd, data, sl⟩, ho, hc, n, hdt⟩, hs⟩ := Iv.tuple hTu
    simp only at hc hdt
    subst hc hdt
    exact wpAny_binaryOp_repeat_ref (T := "tuple") (U := "int") (by decide) ⟨_, ho, rfl⟩ (fun s' => typeIs_int s' 1 t) noFill_tuple_mul F.fills_int_mul F.slot_int_rmul repeat_tuple F.slot_int_index.lookup (call_meets F.slot_int_rmul (typeIs_int s 1 t) F.entry_int_rmul (F.args_int_rmul_2 _ _) (int_rmul_tuple 1 t l ws1.toArray n dd sl)
      ⟨ho, rfl, ⟨_, ho, rfl⟩, call_meets F.slot_tuple_mul ⟨_, ho, rfl⟩ F.entry_tuple_mul (F.args_tuple_mul_2 _ _) (rep1 l ws1.toArray n dd sl t) ⟨ho, ⟨.ref l, H, Iv, rfl, q l H (fun _ _ h => h) (by simpa using hTu)⟩⟩⟩)
  · exact op_repT pn s σ H _ _ v u Q Iv rx ry ⟨l, k, xs, rfl, rfl, hTu, hnn, by omega, h2, hbd, fun p hp => q p _ (fun b o h => by rw [upd_ne (ne_of_none h hp)]; exact h) (SqT.of upd_same)⟩
/-- tuple(..) of a list or a tuple -/
def rTup (K : PySem.W.Frag) : List V → Hp → VK → Prop := fun xs H Q => ∃ a ys, xs = [.ref a] ∧ (SqL K H a ys ∨ SqT K H a ys) ∧ ∀ p H', Same H H' → SqT K H' p ys → Q (.ref p) H'
theorem tup : CallR X (.type "tuple") (rTup X.K) := by
  intro pn s σ H xs us Q Iv r hh
  obtain ⟨a, ys, rfl, hta, q⟩ := hh
  refine call_tuple_of pn s σ H _ us Q Iv r ⟨a, ys, rfl, ?_⟩
  rcases hta with hta | hta
  · exact .inl ⟨hta, fun l hl => q l _ (fun b o h => by rw [upd_ne (ne_of_none h hl)]; exact h) (SqT.of upd_same)⟩
  · exact .inr ⟨hta, q a H (fun _ _ h => h) hta⟩
end
theorem same {K : PySem.W.Frag} {H H' : Hp} {a : Addr} {xs : List V} (e : Same H H') (h : SqT K H a xs) : SqT K H' a xs := by
  rcases h with (h | ⟨fo, h⟩) | h
  · exact Or.inl (Or.inl (e _ _ h))
  · exact Or.inl (Or.inr ⟨fo, e _ _ h⟩)
  · exact Or.inr h
end Ts

set_option maxHeartbeats 4000000
namespace Ts
open PySem L2 PyProof.Rows PySem.Spec
/-! ### a tuple no times; the place of a bool; a tuple in a tuple; lcm -/
theorem rep0 (l : Addr) (items : Array Value) (n : Nat) (dd : Option Addr) (sl : Array (Option Value)) (u : Tok) (hi : items.isEmpty = false) :
    Meets (Builtin.«tuple.__mul__» ⟨[.ref l, .int 0 u], []⟩) (fun _ R s => s.heap.get? l = some { cls := .type "tuple", dict := dd, data := .seq items n, slots := sl } ∧
      R (.ok (.ret (Value.ref s.heap.objs.size))) { s with heap := s.heap.push { cls := Value.type "tuple", data := Data.seq #[] }, toks := s.toks }) :=
  .of_wp fun prog w A R s h => by
    obtain ⟨hp, g, d, tk, os⟩ := s
    obtain ⟨hl, h⟩ := h
    have f1 := AutoSeq1.idx_int
    have c0 : (decide ((0 : Int) < -(2 ^ 63)) || decide ((0 : Int) ≥ 2 ^ 63)) = false := by decide
    have c1 : (items.isEmpty || (0 : Int) == 1) = false := by rw [hi]; rfl
    have c2 : (decide ((0 : Int) ≤ 0) || items.isEmpty) = true := by simp
    wp_walk using wpAny_loadPart' hl
    repeat (first
      | (refine wpAny_ite_false (decide_eq_false (by rw [c1]; exact Bool.false_ne_true)) ?_; wp_walk using wpAny_loadPart' hl)
      | (refine wpAny_ite_true (decide_eq_true c2) ?_; wp_walk using wpAny_loadPart' hl))
    exact ⟨_, rfl, h⟩
/-- a tuple some times, or none -/
def rRep0 (K : PySem.W.Frag) : R2 := fun x y H Q => ∃ l k xs, x = .ref l ∧ y = .int k ∧ SqT K H l xs ∧ xs ≠ [] ∧ 0 ≤ k ∧ k ≤ 1000 ∧ xs.length ≤ 1000 ∧ ∀ p H', Same H H' → SqT K H' p (List.replicate k.toNat xs).flatten → Q (.ref p) H'
section
variable {X : Cx}
theorem repz : OpR X (binaryOp .Mult) (rRep0 X.K) := by
  intro pn s σ H x y v u Q Iv rx ry hh
  obtain ⟨l, k, xs, rfl, rfl, hTu, hnn, h1, h2, hbd, q⟩ := hh
  by_cases hk : k = 0
  · subst hk
    cases rx
    obtain ⟨t, rfl⟩ := ry
    obtain ⟨ws1, r, ⟨⟨cls, dd, data, sl⟩, ho, hc, n, hdt⟩, hs⟩ := Iv.tuple hTu
    simp only at hc hdt
    subst hc hdt
    have hi : ws1.toArray.isEmpty = false := by
      cases ws1 with
      | nil => cases r; exact absurd rfl hnn
      | cons a b => rfl
    refine wpAny_binaryOp_repeat_ref (T := "tuple") (U := "int") (by decide) ⟨_, ho, rfl⟩ (fun s' => typeIs_int s' 0 t) noFill_tuple_mul F.fills_int_mul F.slot_int_rmul repeat_tuple F.slot_int_index.lookup (call_meets F.slot_int_rmul (typeIs_int s 0 t) F.entry_int_rmul (F.args_int_rmul_2 _ _) (int_rmul_tuple 0 t l ws1.toArray n dd sl)
      ⟨ho, rfl, ⟨_, ho, rfl⟩, call_meets F.slot_tuple_mul ⟨_, ho, rfl⟩ F.entry_tuple_mul (F.args_tuple_mul_2 _ _) (rep0 l ws1.toArray n dd sl t hi) ⟨ho, ?_⟩⟩)
    refine ⟨.ref s.heap.objs.size, _, Iv.laid (t' := s.toks) (o := .tup []) (fun b ob q => Heap.get?_push_of_some _ q) (Nat.le_refl _) ?_, rfl, q _ _ (fun b o h => by rw [upd_ne (ne_of_none h (Iv.hok.fresh (Nat.le_refl _)))]; exact h) (SqT.of upd_same)⟩
    exact ⟨Nat.zero_le _, [], .nil, IsTup.new _ _⟩
  · exact rep pn s σ H _ _ v u Q Iv rx ry ⟨l, k, xs, rfl, rfl, hTu, hnn, by omega, h2, hbd, q⟩
/-- t.index(b), a tuple of bools -/
def rIdxB (K : PySem.W.Frag) : V → List V → Hp → VK → Prop := fun x xs H Q => ∃ (p : Addr) (ys : List Bool) (z : Bool) (j : Nat), x = .ref p ∧ xs = [.bl z] ∧ SqT K H p (ys.map V.bl) ∧ ys[j]? = some z ∧ (∀ m, m < j → ys[m]? ≠ some z) ∧ Q (.int (j : Nat)) H
theorem mt_idxB : MtR X "tuple.index" (rIdxB X.K) := by
  intro pins s σ H x xs v us Q I rx rs h
  obtain ⟨p, ys, z, j, rfl, rfl, hq, hy, hno, q⟩ := h
  cases rx
  obtain ⟨u, rfl, hu⟩ := vals1 rs
  have hu : u = .bool z := hu
  subst hu
  obtain ⟨its, r, pl, hz⟩ := I.tuple hq
  obtain ⟨⟨cls, dd, dt, sl⟩, ho, hc, n, hd⟩ := pl
  simp only at hc hd
  subst hc
  subst hd
  have hl : its.toArray.size = ys.length := by rw [List.size_toArray, ← r.length, List.length_map]
  have hj : j < its.toArray.size := by rw [hl]; exact (List.getElem?_eq_some_iff.mp hy).1
  have at' : ∀ (m : Nat) (hm : m < its.toArray.size), ∃ y, ys[m]? = some y ∧ its.toArray[m] = Value.bool y := fun m hm => by
    have hm' : m < ys.length := by rw [← hl]; exact hm
    obtain ⟨w, hw, hw'⟩ := r.get (i := m) (x := .bl ys[m]) (by simp [hm'])
    refine ⟨ys[m], List.getElem?_eq_getElem hm', ?_⟩
    have e := (List.getElem?_eq_some_iff.mp hw).2
    have hw' : w = .bool ys[m] := hw'
    rw [← hw', ← e]
    simp
  have fl : (ys.map V.bl).all flatV = true := by
    rw [List.all_map]
    exact List.all_eq_true.mpr fun _ _ => rfl
  refine call_meets PySem.F.slot_tuple_index ⟨_, ho, rfl⟩ PySem.F.entry_tuple_index (PySem.F.args_tuple_index_2 _ _) (TI.tuple_indexAt p its.toArray n dd sl (.bool z) (eqU (.bl z)) j hj ?_ ?_)
    ⟨ho, fun w hw => mem_eqAt (x := .bl z) rfl rfl r fl w (by simpa using hw), ⟨.int (j : Nat), H, I.tok _, ⟨_, rfl⟩, q⟩⟩
  · obtain ⟨y, h1, h2⟩ := at' j hj
    rw [hy] at h1
    cases h1
    rw [h2]
    show (z == z) = true
    exact beq_self_eq_true z
  · intro m hm hmj
    obtain ⟨y, h1, h2⟩ := at' m hm
    rw [h2]
    show (y == z) = false
    exact beq_eq_false_iff_ne.mpr fun e => hno m hmj (e ▸ h1)
/-- x in t, t a tuple of data -/
def rInT (K : PySem.W.Frag) : R2 := fun x y H Q => ∃ d ds, Dp K H x d ∧ Dp K H y (.tuple ds) ∧ SeqAt.shaped d = true ∧ SeqAt.shaped (.tuple ds) = true ∧ Q (.bl (ds.any fun z => PyData.eqv z d)) H
theorem op_inT (hu : X.A.units + 65 < cLine) : OpR X (compareOp .In) (rInT X.K) := by
  intro pins s σ H x y v u Q I rx ry h
  obtain ⟨d, ds, hd, he, sd, se, q⟩ := h
  obtain ⟨as, r1⟩ := Dp.reads I d x v hd rx
  obtain ⟨bs, r2⟩ := Dp.reads I (.tuple ds) y u he ry
  exact SeqAt.in_tuple_reads r2 r1 (SeqAt.canLay_of_shaped se) (SeqAt.canLay_of_shaped sd) (room_in_shaped sd hu) ⟨.bl _, H, I, rfl, q⟩
def rLcm : List V → Hp → VK → Prop := fun vs H Q => ∃ a b : Nat, vs = [.int (a : Int), .int (b : Int)] ∧ a < 2 ^ 64 ∧ b < 2 ^ 64 ∧ Q (.int ((Nat.lcm a b : Nat) : Int)) H
theorem cr_lcm : CallR X (.builtin "math.lcm") rLcm := by
  intro pins s σ H vs us Q I r h
  obtain ⟨a, b, rfl, ha, hb, q⟩ := h
  obtain ⟨t, u, rfl⟩ := Vals.int2 r
  exact PySem.W.mc_lcm (by simpa using ha) (by simpa using hb) fun _ => ⟨.int _, H, I.tok _, ⟨_, rfl⟩, q⟩
end
end Ts

set_option maxHeartbeats 4000000
/-! ### tuples whose object has no dict -/
namespace Tn
open PySem L2 PyProof.Rows PySem.Spec
def NT (K : PySem.W.Frag) (H : Hp) (p : Addr) (xs : List V) : Prop := SqT K H p xs ∧ ((∃ ob, H p = some (.frz ob (.tup xs)) ∧ ob.dict = none) ∨ ∃ o, K.lookup p = some o ∧ o.cls = .type "tuple" ∧ o.dict = none)
theorem same {K : PySem.W.Frag} {H H' : Hp} {p : Addr} {xs : List V} (s : Same H H') (h : NT K H p xs) : NT K H' p xs := by
  refine ⟨Ts.same s h.1, ?_⟩
  rcases h.2 with ⟨ob, h1, h2⟩ | h
  · exact .inl ⟨ob, s _ _ h1, h2⟩
  · exact .inr h
theorem of {K : PySem.W.Frag} {H : Hp} {p : Addr} {xs : List V} {ob : Obj} (e : H p = some (.frz ob (.tup xs))) (d : ob.dict = none) : NT K H p xs := ⟨.inl (.inr ⟨ob, e⟩), .inl ⟨ob, e, d⟩⟩
section
variable {X : Cx}
theorem land {pn : List (Addr × Obj)} {σ : L2.St} {H : Hp} {s : Shared} {xs : List V} {its : List Value} (Iv : Inv X pn σ H s) (r : Vals xs its) (hl : xs.length ≤ sizeLine) {Q : VK}
    (q : ∀ p H', Same H H' → NT X.K H' p xs → Q (.ref p) H') : EP X pn σ Q (.ref s.heap.objs.size) { s with heap := s.heap.push { cls := .type "tuple", data := .seq its.toArray } } := by
  refine ⟨.ref s.heap.objs.size, _, Iv.laid (t' := s.toks) (o := .frz { cls := .type "tuple", data := .seq its.toArray } (.tup xs)) (fun b ob q => Heap.get?_push_of_some _ q) (Nat.le_refl _) ?_, rfl, q _ _ (fun b o h => by rw [upd_ne (ne_of_none h (Iv.hok.fresh (Nat.le_refl _)))]; exact h) (of upd_same rfl)⟩
  exact ⟨Heap.get?_push_size _ rfl, hl, its, r, IsTup.new _ _⟩
def rSl (K : PySem.W.Frag) : V → Option Int → Option Int → Hp → VK → Prop := fun x lo hi H Q => ∃ a xs, x = .ref a ∧ NT K H a xs ∧ ∀ p H', Same H H' → NT K H' p (cutV xs lo hi) → Q (.ref p) H'
theorem sl : SlR X (rSl X.K) := by
  intro pn s σ H x v vl vu lo hi sp Q Iv rx hs pl pu hh
  obtain ⟨a, xs, rfl, hxs, q⟩ := hh
  cases rx
  obtain ⟨ws1, r, ht, hbd⟩ := Iv.tuple hxs.1
  have eln : ws1.toArray.size = xs.length := by rw [List.size_toArray]; exact r.length.symm
  by_cases hw : (HT.sIx xs.length 0 lo = 0) ∧ (HT.sIx xs.length xs.length hi = xs.length)
  · refine ⟨"tuple", _, PyProof.Rows.slot_tuple_getitem.lookup, ht.typeIs, Ts.whole ht hs pl pu (by rw [eln]; exact hw.1) (by rw [eln]; exact hw.2) ⟨.ref a, H, Iv, rfl, q a H (fun _ _ h => h) ?_⟩⟩
    have e : cutV xs lo hi = xs := by
      unfold cutV
      rw [hw.1, hw.2]
      simp
    rw [e]
    exact hxs
  · refine ⟨"tuple", _, PyProof.Rows.slot_tuple_getitem.lookup, ht.typeIs, ?_⟩
    refine HT.getItem_tuple_cut ht hs pl pu (by rw [eln]; exact hw) ?_ (by rw [eln]; exact hbd)
    rw [eln]
    exact land Iv ((r.drop (HT.sIx xs.length 0 lo)).take (HT.sIx xs.length xs.length hi - HT.sIx xs.length 0 lo)) (Nat.le_trans (cutV_length xs lo hi) hbd) q
def rCat (K : PySem.W.Frag) : R2 := fun x y H Q => ∃ a b xs ys, x = .ref a ∧ y = .ref b ∧ NT K H a xs ∧ NT K H b ys ∧ xs.length + ys.length ≤ sizeLine ∧ ∀ p H', Same H H' → NT K H' p (xs ++ ys) → Q (.ref p) H'
theorem cat : OpR X (binaryOp .Add) (rCat X.K) := by
  intro pn s σ H x y v u Q Iv rx ry hh
  obtain ⟨a, b, xs, ys, rfl, rfl, hta, hb, hbd, q⟩ := hh
  cases rx
  cases ry
  obtain ⟨ws1, rv1, p1, _⟩ := Iv.tuple hta.1
  obtain ⟨ws2, rv2, p2, _⟩ := Iv.tuple hb.1
  by_cases hxs : xs = []
  · subst hxs
    cases rv1
    obtain ⟨⟨cls, dd, data, sl⟩, ho, hc, n, hdt⟩ := id p1
    obtain ⟨⟨cls2, dd2, data2, sl2⟩, ho2, hc2, n2, hd2⟩ := id p2
    simp only at hc hdt hc2 hd2
    subst hc hdt hc2 hd2
    exact concat_meets ⟨_, ho, rfl⟩ ⟨_, ho2, rfl⟩ noFill_tuple_add seq_tuple_add PySem.F.slot_tuple_add PySem.F.entry_tuple_add (PySem.F.args_tuple_add_2 _ _) (tuple_addW0 a b _ ws2.toArray n n2 dd dd2 sl sl2 (by simp)) ⟨ho, ho2, ⟨.ref b, H, Iv, rfl, q b H (fun _ _ h => h) hb⟩⟩
  · refine HT.cat_tup p1 p2 (fun z => hxs (rv1.nil_iff.mp z)) (fun z => ⟨.ref a, H, Iv, rfl, q a H (fun _ _ h => h) (by rw [rv2.nil_iff.mp z, List.append_nil]; exact hta)⟩) (fun z => ?_) (by rw [← rv1.length, ← rv2.length]; exact hbd)
    exact land Iv (rv1.append rv2) (by rw [List.length_append]; exact hbd) q
def rRep (K : PySem.W.Frag) : R2 := fun x y H Q => ∃ l k xs, x = .ref l ∧ y = .int k ∧ NT K H l xs ∧ xs ≠ [] ∧ 0 ≤ k ∧ k ≤ 1000 ∧ xs.length ≤ 1000 ∧ ∀ p H', Same H H' → NT K H' p (List.replicate k.toNat xs).flatten → Q (.ref p) H'
theorem rep : OpR X (binaryOp .Mult) (rRep X.K) := by
  intro pn s σ H x y v u Q Iv rx ry hh
  obtain ⟨l, k, xs, rfl, rfl, hTu, hnn, h0, h2, hz, q⟩ := hh
  cases rx
  obtain ⟨t, rfl⟩ := ry
  obtain ⟨its, r, ⟨⟨cls, dd, data, sl⟩, ho, hc, n, hdt⟩, hs⟩ := Iv.tuple hTu.1
  simp only at hc hdt
  subst hc hdt
  have hle : its.length = xs.length := r.length.symm
  have hi : its.toArray.isEmpty = false := by
    cases its with
    | nil => cases r; exact absurd rfl hnn
    | cons a b => rfl
  rcases (show k = 0 ∨ k = 1 ∨ 2 ≤ k by omega) with hk | hk | h1
  · subst hk
    refine wpAny_binaryOp_repeat_ref (T := "tuple") (U := "int") (by decide) ⟨_, ho, rfl⟩ (fun s' => typeIs_int s' 0 t) noFill_tuple_mul F.fills_int_mul F.slot_int_rmul repeat_tuple F.slot_int_index.lookup (call_meets F.slot_int_rmul (typeIs_int s 0 t) F.entry_int_rmul (F.args_int_rmul_2 _ _) (int_rmul_tuple 0 t l its.toArray n dd sl)
      ⟨ho, rfl, ⟨_, ho, rfl⟩, call_meets F.slot_tuple_mul ⟨_, ho, rfl⟩ F.entry_tuple_mul (F.args_tuple_mul_2 _ _) (Ts.rep0 l its.toArray n dd sl t hi) ⟨ho, ?_⟩⟩)
    exact land (its := []) Iv .nil (Nat.zero_le _) q
  · subst hk
    exact wpAny_binaryOp_repeat_ref (T := "tuple") (U := "int") (by decide) ⟨_, ho, rfl⟩ (fun s' => typeIs_int s' 1 t) noFill_tuple_mul F.fills_int_mul F.slot_int_rmul repeat_tuple F.slot_int_index.lookup (call_meets F.slot_int_rmul (typeIs_int s 1 t) F.entry_int_rmul (F.args_int_rmul_2 _ _) (int_rmul_tuple 1 t l its.toArray n dd sl)
      ⟨ho, rfl, ⟨_, ho, rfl⟩, call_meets F.slot_tuple_mul ⟨_, ho, rfl⟩ F.entry_tuple_mul (F.args_tuple_mul_2 _ _) (Ts.rep1 l its.toArray n dd sl t) ⟨ho, ⟨.ref l, H, Iv, rfl, q l H (fun _ _ h => h) (by simpa using hTu)⟩⟩⟩)
  · have hsz0 : its.toArray.size = xs.length := by rw [List.size_toArray, hle]
    have hm : ((its.toArray.size : Nat) : Int) * k ≤ 1000000 := by
      rw [hsz0]
      have a1 : ((xs.length : Nat) : Int) * k ≤ 1000 * k := Int.mul_le_mul_of_nonneg_right (by omega) (by omega)
      omega
    have flen : (List.replicate k.toNat its).flatten.length ≤ sizeLine := by
      rw [PyProof.Rows.lm_len_rep_flat, hle, sizeLine_eq]
      have a1 : k.toNat * xs.length ≤ 1000 * 1000 := Nat.mul_le_mul (by omega) hz
      omega
    have c0 : (decide (k < -(2 ^ 63)) || decide (k ≥ 2 ^ 63)) = false := by
      rw [decide_eq_false (by omega), decide_eq_false (by omega)] <;> rfl
    have c1 : (its.toArray.isEmpty || k == 1) = false := by
      rw [hi, Bool.false_or]
      exact beq_eq_false_iff_ne.mpr (by omega)
    have c2 : (decide (k ≤ 0) || its.toArray.isEmpty) = false := by
      rw [hi, Bool.or_false]
      exact decide_eq_false (by omega)
    have c4 : Builtin.Tuple.tupleTooMany (((its.toArray.size : Nat) : Int) * k) = false := by
      unfold Builtin.Tuple.tupleTooMany
      rw [sizeLine_eq]
      exact decide_eq_false (by omega)
    refine wpAny_binaryOp_repeat_ref (T := "tuple") (U := "int") (by decide) ⟨_, ho, rfl⟩ (fun s' => typeIs_int s' k t) noFill_tuple_mul F.fills_int_mul F.slot_int_rmul repeat_tuple F.slot_int_index.lookup
      (call_meets F.slot_int_rmul (typeIs_int s k t) F.entry_int_rmul (F.args_int_rmul_2 _ _) (int_rmul_tuple k t l its.toArray n dd sl)
        ⟨ho, rfl, ⟨_, ho, rfl⟩, call_meets F.slot_tuple_mul ⟨_, ho, rfl⟩ F.entry_tuple_mul (F.args_tuple_mul_2 _ _) (tuple_mulW l its.toArray n dd sl k t c0 c1 c2 (by omega) c4 (by rw [size_rep, List.size_toArray]; exact flen)) ⟨ho, ?_⟩⟩)
    rw [size_rep]
    refine land Iv (r.rep k.toNat) ?_ q
    rw [PyProof.Rows.lm_len_rep_flat, sizeLine_eq]
    have a1 : k.toNat * xs.length ≤ 1000 * 1000 := Nat.mul_le_mul (by omega) hz
    omega
def rTup (K : PySem.W.Frag) : List V → Hp → VK → Prop := fun xs H Q => ∃ a ys, xs = [.ref a] ∧ (SqL K H a ys ∨ NT K H a ys) ∧ ∀ p H', Same H H' → NT K H' p ys → Q (.ref p) H'
theorem tup : CallR X (.type "tuple") (rTup X.K) := by
  intro pn s σ H xs us Q I r hh
  obtain ⟨p, ys, rfl, h, q⟩ := hh
  obtain ⟨u, rfl, rx⟩ := vals1 r
  cases rx
  rcases h with hq | hq
  · obtain ⟨its, r', pl, hz⟩ := I.list hq
    have hlen := r'.length
    refine call_tuple_list pl.isList (fun h' kp => ?_) (by simp only [List.size_toArray] <;> omega)
    have I1 : Inv X pn σ H { s with heap := h' } := I.kept (t' := s.toks) kp
    exact land I1 r' hz q
  · obtain ⟨its, r', pl, hz⟩ := I.tuple hq.1
    exact call_tuple_same pl ⟨.ref p, H, I, rfl, q p H (fun _ _ h => h) hq⟩
variable {e : Expr} {es : List Expr} {t : TA} {pos : Pos}
def tTupN (K : PySem.W.Frag) (t : TA) : TE := fun σ H Q => t σ H fun xs H1 => xs.length ≤ sizeLine ∧ ∀ p H', Same H1 H' → NT K H' p xs → Q (.ref p) H'
theorem pe_tupN {x1} (h : PA X es t) : PE X (.Tuple es x1 pos) (tTupN X.K t) := by
  refine ⟨fun pins s σ H Q I hq => ?_⟩
  refine wpAny_Tuple_spliced (thn (h.run pos pins s σ H _ I hq) fun us s1 ⟨xs, H1, I1, r, z, q⟩ => ⟨by rw [← r.length]; exact z, ?_⟩)
  exact land I1 r z q
variable {o : Expr} {to : TE} {name : Str} {apos cpos : Pos} {id : String} {r : V → List V → Hp → VK → Prop}
def tBMN (K : PySem.W.Frag) (r : V → List V → Hp → VK → Prop) (to : TE) (t : TA) : TE := fun σ H Q => to σ H fun x H1 => (∃ p xs, x = .ref p ∧ NT K H1 p xs) ∧ t σ H1 fun vs H2 => r x vs H2 Q
theorem pe_bmN (slot : Slot "tuple" name id) (hty : typeOf (.builtin id) = pure (.type "method_descriptor")) (hm : MtR X id r) (ho : PE X o to) (ha : PA X (e :: es) t)
    (hbase : attributeBase o name X.env (eval o X.env) = eval o X.env := by rfl)
    (hfew : ((backTo cpos (starEach (e :: es) X.env)).all (fun x => !x.1) && (backToKw cpos (keywordEach [] X.env)).all (fun x => x.1.isSome)
      && decide ((e :: es).length + ([] : List Keyword).length + (if ([] : List Keyword).isEmpty then 0 else 1) < 30)) = true := by rfl)
    (hline : (apos.endLine == cpos.line) = true := by rfl) (hs : starEach (e :: es) X.env = (false, eval e X.env) :: starEach es X.env := by rfl) (hplain : (backTo cpos (starEach es X.env)).any (·.1) = false := by rfl) :
    PE X (.Call (.Attribute o name apos) (e :: es) [] cpos) (tBMN X.K r to t) := by
  refine ⟨fun pins s σ H Q I h => ?_⟩
  refine wpAny_Call_method_late hbase hfew hline rfl (thn (ho.run pins s σ H _ I h) fun v s1 ⟨x, H1, I1, r1, ⟨p, xs, ep, ty⟩, q1⟩ => ?_)
  subst ep
  cases r1
  obtain ⟨its, rr, pl, hz⟩ := I1.tuple ty.1
  have h2 : ∀ a, Value.ref p = .ref a → ∃ ob, s1.heap.get? a = some ob ∧ ob.dict = none := by
    intro a ea
    cases ea
    rcases ty.2 with ⟨ob, e1, e2⟩ | ⟨ob, e1, _, e2⟩
    · have := I1.hok p _ e1
      exact ⟨ob, this.1, e2⟩
    · exact ⟨ob, I1.kIn p ob e1, e2⟩
  refine ⟨"tuple", id, PySem.F.plainAttrs_tuple, slot, hty, pl.typeIs, h2, ?_⟩
  have hA := ha.run cpos pins s1 σ H1 _ I1 q1
  rw [hs] at hA ⊢
  refine Calls.callWith_builtin (by show (false || (backTo cpos (starEach es X.env)).any (·.1)) = false; rw [hplain] <;> rfl) (Calls.evalArgs_plain ?_)
  exact thn hA fun us s2 ⟨vs, H2, I2, r2, q2⟩ => hm pins s2 σ H2 (.ref p) vs (.ref p) us Q I2 rfl r2 q2
end
end Tn

namespace Mw
abbrev BL := List Bool
/-- the item of a cycle at any place -/
def cv (c : BL) (i : Int) : Bool := c.getD (i % (c.length : Int)).toNat false
/-- a cycle from another place on -/
def rot (c : BL) (i : Int) : BL := (List.range c.length).map fun (k : Nat) => cv c ((k : Int) + i)
def sq (h c : BL) (n : Nat) : Bool := if n < h.length then h.getD n false else cv c ((n : Int) - (h.length : Int))
def pfF : Nat → Nat → Nat → List Nat
  | 0, _, _ => []
  | fu + 1, n, f => if f * f ≤ n then (if n % f = 0 then f :: pfF fu (n / f) f else pfF fu n (f + 1)) else if 1 < n then [n] else []
def pf (n : Nat) : List Nat := pfF (2 * n) n 2
def scF (c : BL) : List Nat → Nat → Nat
  | [], s => s
  | f :: fs, s => scF c fs (if (c.drop (s / f)).take (s - s / f) = c.take (s - s / f) then s / f else s)
def sc (c : BL) : BL := c.take (scF c (pf c.length) c.length)
/-- how many items at the head's end (backwards) the cycle has, too -/
def mny (c : BL) : BL → Nat → Nat
  | [], _ => 0
  | x :: xs, j => if x = cv c (-1 - (j : Int)) then mny c xs (j + 1) + 1 else 0
def mn (h c : BL) : Nat := mny c h.reverse 0
def stl (h c : BL) : BL × BL := (h.take (h.length - mn h (sc c)), rot (sc c) (-(mn h (sc c) : Int)))
theorem len_pos {c : BL} (h : c ≠ []) : 0 < c.length := List.length_pos_iff.mpr h
theorem cv_mod {c : BL} {i j : Int} (h : i % (c.length : Int) = j % (c.length : Int)) : cv c i = cv c j := by
  unfold cv
  rw [h]
theorem cv_nat {c : BL} {k : Nat} (h : k < c.length) : cv c (k : Int) = c.getD k false := by
  unfold cv
  rw [Int.emod_eq_of_lt (by omega) (by omega), Int.toNat_natCast]
/-! ### prime factors -/
def Pr (p : Nat) : Prop := 2 ≤ p ∧ ∀ d, d ∣ p → d = 1 ∨ d = p
def pro : List Nat → Nat
  | [] => 1
  | x :: xs => x * pro xs
theorem pfF_ok : ∀ (fu n f : Nat), 2 ≤ f → 1 ≤ n → (∀ d, 2 ≤ d → d < f → ¬ d ∣ n) → 2 * n < fu + f → (∀ p ∈ pfF fu n f, Pr p) ∧ pro (pfF fu n f) = n
  | 0, n, f, h2, h1, hd, hf => by
    have : n = 1 := by
      by_cases z : 2 ≤ n
      · exact absurd (Nat.dvd_refl n) (hd n z (by omega))
      · omega
    subst this
    exact ⟨fun p hp => (by cases hp), rfl⟩
  | fu + 1, n, f, h2, h1, hd, hf => by
    unfold pfF
    by_cases c : f * f ≤ n
    · rw [if_pos c]
      have hff : 2 * f ≤ f * f := Nat.mul_le_mul_right f h2
      by_cases c2 : n % f = 0
      · rw [if_pos c2]
        have hfn : f ∣ n := Nat.dvd_of_mod_eq_zero c2
        have e : f * (n / f) = n := Nat.mul_div_cancel' hfn
        have d2 : 2 * (n / f) ≤ f * (n / f) := Nat.mul_le_mul_right _ h2
        have d1 : 1 ≤ n / f := by
          rcases Nat.eq_zero_or_pos (n / f) with z | z
          · rw [z] at e; omega
          · exact z
        obtain ⟨a, b⟩ := pfF_ok fu (n / f) f h2 d1 (fun d h h' hdv => hd d h h' (Nat.dvd_trans hdv ⟨f, by rw [Nat.mul_comm]; exact e.symm⟩)) (by omega)
        refine ⟨fun p hp => ?_, ?_⟩
        · rcases List.mem_cons.mp hp with rfl | hp
          · refine ⟨h2, fun d hdp => ?_⟩
            by_cases z : d = 1
            · exact .inl z
            · have hle := Nat.le_of_dvd (by omega) hdp
              have h0 : d ≠ 0 := by
                rintro rfl
                have := Nat.eq_zero_of_zero_dvd hdp
                omega
              by_cases z2 : d < p
              · exact absurd (Nat.dvd_trans hdp hfn) (hd d (by omega) z2)
              · exact .inr (by omega)
          · exact a p hp
        · show f * pro _ = n
          rw [b, e]
      · rw [if_neg c2]
        refine pfF_ok fu n (f + 1) (by omega) h1 (fun d h h' hdv => ?_) (by omega)
        by_cases z : d = f
        · subst z
          exact c2 (Nat.mod_eq_zero_of_dvd hdv)
        · exact hd d h (by omega) hdv
    · rw [if_neg c]
      by_cases c2 : 1 < n
      · rw [if_pos c2]
        refine ⟨fun p hp => ?_, Nat.mul_one n⟩
        rw [List.mem_singleton.mp hp]
        refine ⟨c2, fun d hdp => ?_⟩
        obtain ⟨k, hk⟩ := hdp
        have h0 : d ≠ 0 := by rintro rfl; omega
        have k0 : k ≠ 0 := by rintro rfl; omega
        by_cases z : d = 1
        · exact .inl z
        · by_cases z2 : k = 1
          · exact .inr (by rw [hk, z2, Nat.mul_one])
          · exfalso
            have h3 : ¬ d < f := fun h => hd d (by omega) h ⟨k, hk⟩
            have h4 : ¬ k < f := fun h => hd k (by omega) h ⟨d, by rw [Nat.mul_comm]; exact hk⟩
            have : f * f ≤ d * k := Nat.mul_le_mul (by omega) (by omega)
            omega
      · rw [if_neg c2]
        exact ⟨fun p hp => (by cases hp), by show 1 = n; omega⟩
theorem pf_ok {n : Nat} (h : 1 ≤ n) : (∀ p ∈ pf n, Pr p) ∧ pro (pf n) = n := pfF_ok (2 * n) n 2 (by decide) h (fun d h1 h2 => by omega) (by omega)
theorem pro_pos : ∀ {fs : List Nat}, (∀ p ∈ fs, Pr p) → 1 ≤ pro fs
  | [], _ => Nat.le_refl _
  | p :: fs, h => by
    have h1 := (h p List.mem_cons_self).1
    have h2 := pro_pos fun x hx => h x (List.mem_cons_of_mem _ hx)
    exact Nat.mul_le_mul (show 1 ≤ p by omega) h2
theorem pro_dvd : ∀ {fs : List Nat} {p : Nat}, p ∈ fs → p ∣ pro fs
  | q :: fs, p, h => by
    rcases List.mem_cons.mp h with rfl | h
    · exact ⟨pro fs, rfl⟩
    · exact Nat.dvd_trans (pro_dvd h) ⟨q, Nat.mul_comm _ _⟩
theorem pf_pos {n f : Nat} (hn : 1 ≤ n) (h : f ∈ pf n) : 2 ≤ f ∧ f ≤ n := by
  obtain ⟨a, b⟩ := pf_ok hn
  refine ⟨(a f h).1, Nat.le_of_dvd hn ?_⟩
  have := pro_dvd h
  rw [b] at this
  exact this
/-! ### periods -/
def Per (c : BL) (d : Nat) : Prop := ∀ i : Int, cv c (i + (d : Int)) = cv c i
theorem per_len (c : BL) : Per c c.length := fun i => cv_mod (by rw [Int.add_emod_right])
theorem per_mul {c : BL} {d : Nat} (h : Per c d) : ∀ k : Nat, Per c (d * k)
  | 0 => fun i => by rw [Nat.mul_zero, Int.natCast_zero, Int.add_zero]
  | k + 1 => fun i => by
    have e : i + ((d * (k + 1) : Nat) : Int) = (i + ((d * k : Nat) : Int)) + (d : Int) := by
      rw [Nat.mul_add, Nat.mul_one, Int.natCast_add]
      omega
    rw [e, h, per_mul h k]
theorem per_sub {c : BL} {a b : Nat} (ha : Per c a) (hb : Per c b) (hl : b ≤ a) : Per c (a - b) := fun i => by
  rw [← hb (i + ((a - b : Nat) : Int))]
  rw [show i + ((a - b : Nat) : Int) + (b : Int) = i + (a : Int) by omega]
  exact ha i
theorem per_mod {c : BL} {a q : Nat} (hq : Per c q) (ha : Per c a) : Per c (a % q) := by
  have e : a % q = a - q * (a / q) := by
    have := Nat.div_add_mod a q
    omega
  rw [e]
  exact per_sub ha (per_mul hq _) (Nat.mul_div_le a q)
theorem per_emod {c : BL} {s : Nat} (h : Per c s) (hs : 0 < s) (i : Int) : cv c i = cv c (i % (s : Int)) := by
  have e := Int.emod_add_mul_ediv i (s : Int)
  rcases Int.le_total 0 (i / (s : Int)) with z | z
  · obtain ⟨k, hk⟩ := Int.eq_ofNat_of_zero_le z
    have := per_mul h k (i % (s : Int))
    rw [← this]
    congr 1
    rw [hk] at e
    rw [Int.natCast_mul]
    omega
  · obtain ⟨k, hk⟩ := Int.eq_ofNat_of_zero_le (show 0 ≤ -(i / (s : Int)) by omega)
    have := per_mul h k i
    rw [← this]
    congr 1
    rw [show i / (s : Int) = -(k : Int) by omega, Int.mul_neg] at e
    rw [Int.natCast_mul]
    omega
structure IsMin (c : BL) (q : Nat) : Prop where
  pos : 0 < q
  per : Per c q
  le : ∀ d, 0 < d → Per c d → q ≤ d
theorem least_of {P : Nat → Prop} : ∀ n, P n → ∃ m, P m ∧ ∀ k, P k → m ≤ k := by
  intro n
  induction n using Nat.strongRecOn with
  | ind n ih =>
    intro h
    by_cases z : ∃ k, k < n ∧ P k
    · obtain ⟨k, hk, hp⟩ := z
      exact ih k hk hp
    · exact ⟨n, h, fun k hk => Nat.le_of_not_lt fun hlt => z ⟨k, hlt, hk⟩⟩
theorem ex_min {c : BL} (hc : c ≠ []) : ∃ q, IsMin c q := by
  obtain ⟨q, ⟨h1, h2⟩, h3⟩ := least_of (P := fun d => 0 < d ∧ Per c d) c.length ⟨len_pos hc, per_len c⟩
  exact ⟨q, h1, h2, fun d a b => h3 d ⟨a, b⟩⟩
theorem IsMin.dvd {c : BL} {q d : Nat} (h : IsMin c q) (hd : Per c d) : q ∣ d := by
  refine Nat.dvd_of_mod_eq_zero ?_
  rcases Nat.eq_zero_or_pos (d % q) with z | z
  · exact z
  · have := h.le _ z (per_mod h.per hd)
    have := Nat.mod_lt d h.pos
    omega
theorem tst {c : BL} {s t : Nat} (hs : Per c s) (hl : s ≤ c.length) (ht : 0 < t) (hd : t ∣ s) (h0 : 0 < s) : ((c.drop t).take (s - t) = c.take (s - t)) ↔ Per c t := by
  have hts : t ≤ s := Nat.le_of_dvd h0 hd
  constructor
  · intro h
    have hj : ∀ j, j < s - t → c.getD (j + t) false = c.getD j false := fun j hj => by
      have := congrArg (fun l => l.getD j false) h
      simp only [List.getD_eq_getElem?_getD, List.getElem?_take_of_lt hj, List.getElem?_drop] at this
      rw [List.getD_eq_getElem?_getD, List.getD_eq_getElem?_getD, Nat.add_comm j t]
      exact this
    have hA : ∀ r, r < s → cv c ((r : Nat) : Int) = cv c ((r % t : Nat) : Int) := by
      intro r
      induction r using Nat.strongRecOn with
      | ind r ih =>
        intro hr
        by_cases z : r < t
        · rw [Nat.mod_eq_of_lt z]
        · have e1 := hj (r - t) (by omega)
          rw [show r - t + t = r by omega] at e1
          rw [cv_nat (by omega), e1, ← cv_nat (by omega), ih (r - t) (by omega) (by omega)]
          congr 2
          rw [← Nat.mod_eq_sub_mod (by omega)]
    have hB : ∀ i : Int, cv c i = cv c (i % (t : Int)) := fun i => by
      have a0 : 0 ≤ i % (s : Int) := Int.emod_nonneg _ (by omega)
      have a1 : i % (s : Int) < s := Int.emod_lt_of_pos _ (by omega)
      rw [per_emod hs h0 i]
      have := hA (i % (s : Int)).toNat (by omega)
      rw [Int.natCast_emod, Int.toNat_of_nonneg a0, Int.emod_emod_of_dvd _ (Int.natCast_dvd_natCast.mpr hd)] at this
      exact this
    intro i
    rw [hB (i + (t : Int)), hB i, Int.add_emod_right]
  · intro h
    refine List.ext_getElem (by simp; omega) fun j j1 j2 => ?_
    have hj : j < s - t := by
      rw [List.length_take] at j2
      omega
    rw [List.getElem_take, List.getElem_drop, List.getElem_take]
    have := h (j : Int)
    rw [show (j : Int) + (t : Int) = ((t + j : Nat) : Int) by omega, cv_nat (by omega), cv_nat (by omega)] at this
    rw [List.getD_eq_getElem?_getD, List.getD_eq_getElem?_getD, List.getElem?_eq_getElem (by omega), List.getElem?_eq_getElem (by omega)] at this
    exact this
theorem scF_min {c : BL} {q : Nat} (hq : IsMin c q) : ∀ (fs : List Nat) (s m : Nat), s = q * m → 0 < m → s ≤ c.length → (∀ p ∈ fs, Pr p) → m ∣ pro fs → pro fs ∣ s → scF c fs s = q
  | [], s, m, hs, hm, _, _, hd, _ => by
    have : m = 1 := Nat.dvd_one.mp hd
    rw [this, Nat.mul_one] at hs
    exact hs
  | p :: fs, s, m, hs, hm, hl, hp, hd, hd2 => by
    have pp := hp p List.mem_cons_self
    have hp' : ∀ x ∈ fs, Pr x := fun x hx => hp x (List.mem_cons_of_mem _ hx)
    have p0 : 0 < p := by have := pp.1; omega
    have hd : m ∣ p * pro fs := hd
    obtain ⟨k, hk⟩ : p * pro fs ∣ s := hd2
    have s0 : 0 < s := by rw [hs]; exact Nat.mul_pos hq.pos hm
    have hps : p ∣ s := ⟨pro fs * k, by rw [hk, Nat.mul_assoc]⟩
    have et : p * (s / p) = s := Nat.mul_div_cancel' hps
    have t0 : 0 < s / p := by
      rcases Nat.eq_zero_or_pos (s / p) with z | z
      · rw [z] at et; omega
      · exact z
    have hsper : Per c s := by rw [hs]; exact per_mul hq.per m
    have htd : s / p ∣ s := ⟨p, by rw [Nat.mul_comm]; exact et.symm⟩
    have key := tst hsper hl t0 htd s0
    have hft : pro fs ∣ s / p := by
      refine ⟨k, Nat.eq_of_mul_eq_mul_left p0 ?_⟩
      rw [et, hk, Nat.mul_assoc]
    show scF c fs (if (c.drop (s / p)).take (s - s / p) = c.take (s - s / p) then s / p else s) = q
    by_cases z : Per c (s / p)
    · rw [if_pos (key.mpr z)]
      obtain ⟨m', hm'⟩ := hq.dvd z
      have em : m = p * m' := by
        refine Nat.eq_of_mul_eq_mul_left hq.pos ?_
        rw [← hs, ← et, hm', ← Nat.mul_assoc, ← Nat.mul_assoc, Nat.mul_comm p q]
      have m0 : 0 < m' := by
        rcases Nat.eq_zero_or_pos m' with y | y
        · rw [em, y] at hm; omega
        · exact y
      refine scF_min hq fs (s / p) m' hm' m0 (Nat.le_trans (Nat.div_le_self _ _) hl) hp' ?_ hft
      rw [em] at hd
      exact Nat.dvd_of_mul_dvd_mul_left p0 hd
    · rw [if_neg (fun y => z (key.mp y))]
      refine scF_min hq fs s m hs hm hl hp' ?_ (Nat.dvd_trans hft htd)
      have cop : Nat.Coprime m p := by
        have hg := Nat.gcd_dvd_right m p
        rcases pp.2 _ hg with y | y
        · exact y
        · exfalso
          have hpm : p ∣ m := by rw [← y]; exact Nat.gcd_dvd_left m p
          obtain ⟨m'', hm''⟩ := hpm
          apply z
          have : s / p = q * m'' := by
            refine Nat.eq_of_mul_eq_mul_left p0 ?_
            rw [et, hs, hm'', ← Nat.mul_assoc, ← Nat.mul_assoc, Nat.mul_comm p q]
          rw [this]
          exact per_mul hq.per m''
      exact cop.dvd_of_dvd_mul_left hd
theorem sc_eq {c : BL} {q : Nat} (hc : c ≠ []) (h : IsMin c q) : sc c = c.take q ∧ q ≤ c.length := by
  have hp := len_pos hc
  obtain ⟨a, b⟩ := pf_ok hp
  obtain ⟨m, hm⟩ := h.dvd (per_len c)
  have m0 : 0 < m := by
    rcases Nat.eq_zero_or_pos m with z | z
    · rw [z] at hm; omega
    · exact z
  refine ⟨?_, h.le _ hp (per_len c)⟩
  unfold sc
  rw [scF_min h (pf c.length) c.length m hm m0 (Nat.le_refl _) a (by rw [b]; exact ⟨q, by rw [hm, Nat.mul_comm]⟩) (by rw [b]; exact Nat.dvd_refl _)]
end Mw

namespace Mw
theorem getD_map_range {n j : Nat} {f : Nat → Bool} (h : j < n) : ((List.range n).map f).getD j false = f j := by
  rw [List.getD_eq_getElem?_getD, List.getElem?_map, List.getElem?_range h]
  rfl
theorem rot_len (c : BL) (i : Int) : (rot c i).length = c.length := by simp [rot]
theorem rot_ne {c : BL} {i : Int} (h : c ≠ []) : rot c i ≠ [] := by
  intro e
  have := rot_len c i
  rw [e] at this
  exact h (List.eq_nil_of_length_eq_zero this.symm)
theorem cv_rot {c : BL} (hc : c ≠ []) (i k : Int) : cv (rot c i) k = cv c (k + i) := by
  have hp := len_pos hc
  have h0 : 0 ≤ k % (c.length : Int) := Int.emod_nonneg _ (by omega)
  have h1 : k % (c.length : Int) < c.length := Int.emod_lt_of_pos _ (by omega)
  show (rot c i).getD (k % ((rot c i).length : Int)).toNat false = _
  rw [rot_len]
  unfold rot
  rw [getD_map_range (by omega), Int.toNat_of_nonneg h0]
  exact cv_mod (by rw [Int.emod_add_emod])
theorem rot_rot {c : BL} (hc : c ≠ []) (i j : Int) : rot (rot c i) j = rot c (i + j) := by
  show (List.range (rot c i).length).map _ = _
  rw [rot_len]
  refine List.map_congr_left fun k _ => ?_
  rw [cv_rot hc]
  congr 1
  omega
theorem mny_le (c : BL) : ∀ (xs : BL) (j : Nat), mny c xs j ≤ xs.length
  | [], _ => Nat.le_refl _
  | x :: xs, j => by
    unfold mny
    have := mny_le c xs (j + 1)
    split <;> simp <;> omega
theorem mny_in (c : BL) : ∀ (xs : BL) (j k : Nat), k < mny c xs j → xs.getD k false = cv c (-1 - ((j + k : Nat) : Int))
  | [], _, k, h => by cases h
  | x :: xs, j, k, h => by
    unfold mny at h
    split at h
    · rename_i e
      cases k with
      | zero => exact e
      | succ k =>
        have := mny_in c xs (j + 1) k (by omega)
        rw [List.getD_cons_succ, this]
        congr 1
        omega
    · cases h
theorem mny_out (c : BL) : ∀ (xs : BL) (j : Nat), mny c xs j < xs.length → xs.getD (mny c xs j) false ≠ cv c (-1 - ((j + mny c xs j : Nat) : Int))
  | [], _, h => by cases h
  | x :: xs, j, h => by
    unfold mny at h ⊢
    split
    · rename_i e
      rw [if_pos e] at h
      have h' : mny c xs (j + 1) < xs.length := by simpa using h
      have := mny_out c xs (j + 1) h'
      rw [List.getD_cons_succ]
      intro z
      apply this
      rw [z]
      congr 1
      omega
    · rename_i e
      exact e
theorem getD_rev {h : BL} {k : Nat} (hk : k < h.length) : h.reverse.getD k false = h.getD (h.length - 1 - k) false := by
  rw [List.getD_eq_getElem?_getD, List.getD_eq_getElem?_getD, List.getElem?_reverse hk]
theorem getD_take {h : BL} {k s : Nat} (hk : k < s) : (h.take s).getD k false = h.getD k false := by
  rw [List.getD_eq_getElem?_getD, List.getD_eq_getElem?_getD, List.getElem?_take_of_lt hk]
structure Sh (c c' : BL) : Prop where
  nc : c ≠ []
  nc' : c' ≠ []
  le : c'.length ≤ c.length
  dv : (c'.length : Int) ∣ (c.length : Int)
  eq : ∀ i, cv c i = cv c' i
theorem sq_lo {h c : BL} {n : Nat} (hn : n < h.length) : sq h c n = h.getD n false := by
  unfold sq
  rw [if_pos hn]
theorem sq_hi {h c : BL} {n : Nat} (hn : h.length ≤ n) : sq h c n = cv c ((n : Int) - (h.length : Int)) := by
  unfold sq
  rw [if_neg (by omega)]
theorem mn_le (h c : BL) : mn h c ≤ h.length := by
  have := mny_le c h.reverse 0
  rw [List.length_reverse] at this
  exact this
theorem mn_in {h c : BL} {n : Nat} (h1 : h.length - mn h c ≤ n) (h2 : n < h.length) : h.getD n false = cv c ((n : Int) - (h.length : Int)) := by
  have hl := mn_le h c
  have := mny_in c h.reverse 0 (h.length - 1 - n) (by show _ < mn h c; omega)
  rw [getD_rev (by omega), show h.length - 1 - (h.length - 1 - n) = n by omega] at this
  rw [this]
  congr 1
  omega
theorem mn_out {h c : BL} (h1 : mn h c < h.length) : h.getD (h.length - 1 - mn h c) false ≠ cv c (-1 - (mn h c : Int)) := by
  have := mny_out c h.reverse 0 (by rw [List.length_reverse]; exact h1)
  rw [getD_rev (show mny c h.reverse 0 < h.length from h1)] at this
  rw [show ((0 + mny c h.reverse 0 : Nat) : Int) = (mn h c : Int) by unfold mn; omega] at this
  exact this
theorem sq_cut {h c c' : BL} (S : Sh c c') {s : Nat} (hs : s ≤ h.length) (n : Nat) : sq (h.take s) (rot c' ((s : Int) - (h.length : Int))) n = if n < s then h.getD n false else cv c ((n : Int) - (h.length : Int)) := by
  have hl : (h.take s).length = s := by rw [List.length_take]; omega
  by_cases hn : n < s
  · rw [if_pos hn, sq_lo (by rw [hl]; exact hn), getD_take hn]
  · rw [if_neg hn, sq_hi (by rw [hl]; omega), hl, cv_rot S.nc', S.eq]
    congr 1
    omega
theorem cut_ok {h c c' : BL} (S : Sh c c') (n : Nat) : sq (h.take (h.length - mn h c')) (rot c' (-(mn h c' : Int))) n = sq h c n := by
  have hl := mn_le h c'
  have e := sq_cut S (h := h) (s := h.length - mn h c') (by omega) n
  rw [show ((h.length - mn h c' : Nat) : Int) - (h.length : Int) = -(mn h c' : Int) by omega] at e
  rw [e]
  by_cases h1 : n < h.length - mn h c'
  · rw [if_pos h1, sq_lo (by omega)]
  · rw [if_neg h1]
    by_cases h2 : n < h.length
    · rw [sq_lo h2, mn_in (h := h) (c := c') (by omega) h2, S.eq]
    · rw [sq_hi (by omega)]
theorem cv_take {c : BL} {q : Nat} (h : IsMin c q) (hl : q ≤ c.length) (i : Int) : cv (c.take q) i = cv c i := by
  have e : (c.take q).length = q := by rw [List.length_take]; omega
  have a0 : 0 ≤ i % (q : Int) := Int.emod_nonneg _ (by have := h.pos; omega)
  have a1 : i % (q : Int) < q := Int.emod_lt_of_pos _ (by have := h.pos; omega)
  rw [per_emod h.per h.pos i]
  have := cv_nat (c := c) (k := (i % (q : Int)).toNat) (by omega)
  rw [Int.toNat_of_nonneg a0] at this
  rw [this]
  unfold cv
  rw [e, getD_take (by omega)]
theorem per_cv {c c' : BL} (h : ∀ i, cv c i = cv c' i) (d : Nat) : Per c d ↔ Per c' d := by
  constructor
  · intro z i
    rw [← h, ← h]
    exact z i
  · intro z i
    rw [h, h]
    exact z i
theorem IsMin.iff {c c' : BL} (h : ∀ d, Per c d ↔ Per c' d) {q : Nat} (m : IsMin c q) : IsMin c' q := ⟨m.pos, (h q).mp m.per, fun d a b => m.le d a ((h d).mpr b)⟩
theorem sc_full {c : BL} (hc : c ≠ []) (m : IsMin c c.length) : sc c = c := by
  rw [(sc_eq hc m).1, List.take_length]
/-- the shortest cycle -/
theorem sh_gen {c : BL} (hc : c ≠ []) : Sh c (sc c) ∧ IsMin c (sc c).length ∧ IsMin (sc c) (sc c).length := by
  obtain ⟨q, m⟩ := ex_min hc
  obtain ⟨e, hl⟩ := sc_eq hc m
  have el : (sc c).length = q := by rw [e, List.length_take]; omega
  have ecv : ∀ i, cv c i = cv (sc c) i := fun i => by rw [e, cv_take m hl]
  rw [el]
  refine ⟨⟨hc, ?_, by rw [el]; exact hl, ?_, ecv⟩, m, m.iff (per_cv ecv)⟩
  · intro z
    rw [z] at el
    have := m.pos
    simp at el
    omega
  · rw [el]
    exact Int.natCast_dvd_natCast.mpr (m.dvd (per_len c))
theorem sc_ne {c : BL} (hc : c ≠ []) : sc c ≠ [] := (sh_gen hc).1.nc'
theorem per_rot {c : BL} (hc : c ≠ []) (k : Int) (d : Nat) : Per c d ↔ Per (rot c k) d := by
  constructor
  · intro z i
    rw [cv_rot hc, cv_rot hc, show i + (d : Int) + k = (i + k) + (d : Int) by omega]
    exact z _
  · intro z i
    have := z (i - k)
    rw [cv_rot hc, cv_rot hc, show i - k + (d : Int) + k = i + (d : Int) by omega, show i - k + k = i by omega] at this
    exact this
theorem rot_zero {c : BL} : rot c 0 = c := by
  refine List.ext_getElem (rot_len _ _) fun k k1 k2 => ?_
  simp only [rot, List.getElem_map, List.getElem_range]
  rw [Int.add_zero, cv_nat k2, List.getD_eq_getElem?_getD, List.getElem?_eq_getElem k2]
  rfl
/-- in settled form -/
structure Stl (h c : BL) : Prop where
  nc : c ≠ []
  mi : IsMin c c.length
  mz : mn h c = 0
theorem Stl.sc {h c : BL} (s : Stl h c) : sc c = c := sc_full s.nc s.mi
theorem stl_fix {h c : BL} (s : Stl h c) : stl h c = (h, c) := by
  unfold stl
  rw [s.sc, s.mz]
  refine Prod.ext ?_ ?_
  · show h.take (h.length - 0) = h
    rw [Nat.sub_zero, List.take_length]
  · show rot c (-((0 : Nat) : Int)) = c
    rw [show -((0 : Nat) : Int) = 0 by rfl]
    exact rot_zero
theorem stl_Stl {h c : BL} (hc : c ≠ []) : Stl (stl h c).1 (stl h c).2 := by
  obtain ⟨S, m1, m2⟩ := sh_gen hc
  refine ⟨rot_ne S.nc', ?_, ?_⟩
  · show IsMin (rot (Mw.sc c) _) (rot (Mw.sc c) _).length
    rw [rot_len]
    exact m2.iff (per_rot S.nc' _)
  · have hl := mn_le h (Mw.sc c)
    show mny (rot (Mw.sc c) (-(mn h (Mw.sc c) : Int))) (h.take (h.length - mn h (Mw.sc c))).reverse 0 = 0
    by_cases z : mn h (Mw.sc c) < h.length
    · have ho := mn_out z
      have el : (h.take (h.length - mn h (Mw.sc c))).length = h.length - mn h (Mw.sc c) := by rw [List.length_take]; omega
      have e1 : (h.take (h.length - mn h (Mw.sc c))).reverse.getD 0 false = h.getD (h.length - 1 - mn h (Mw.sc c)) false := by
        rw [getD_rev (by rw [el]; omega), el, getD_take (by omega)]
        congr 1
        omega
      generalize hr : (h.take (h.length - mn h (Mw.sc c))).reverse = l at e1
      cases l with
      | nil => rfl
      | cons x xs =>
        have e1 : x = h.getD (h.length - 1 - mn h (Mw.sc c)) false := e1
        unfold mny
        rw [if_neg]
        rw [e1, cv_rot S.nc']
        intro y
        apply ho
        rw [y]
        congr 1
        try omega
    · rw [show h.length - mn h (Mw.sc c) = 0 by omega]
      rfl
theorem sq_stl {h c : BL} (hc : c ≠ []) (n : Nat) : sq (stl h c).1 (stl h c).2 n = sq h c n := cut_ok (sh_gen hc).1 n
theorem stl_len {h c : BL} (hc : c ≠ []) : (stl h c).1.length ≤ h.length ∧ (stl h c).2.length ≤ c.length := by
  refine ⟨?_, ?_⟩
  · show (h.take _).length ≤ _
    rw [List.length_take]
    omega
  · have := (sh_gen hc).1.le
    show (rot (sc c) _).length ≤ c.length
    rw [rot_len]
    exact this
/-! ### the complement -/
def neg (b : BL) : BL := b.map not
theorem neg_len (b : BL) : (neg b).length = b.length := List.length_map ..
theorem neg_getD {b : BL} {k : Nat} (h : k < b.length) : (neg b).getD k false = !b.getD k false := by
  unfold neg
  rw [List.getD_eq_getElem?_getD, List.getElem?_map, List.getD_eq_getElem?_getD, List.getElem?_eq_getElem h]
  rfl
theorem neg_ne {b : BL} (h : b ≠ []) : neg b ≠ [] := by
  intro z
  exact h (List.map_eq_nil_iff.mp z)
theorem cv_neg {c : BL} (hc : c ≠ []) (i : Int) : cv (neg c) i = !cv c i := by
  have hp := len_pos hc
  have a0 : 0 ≤ i % (c.length : Int) := Int.emod_nonneg _ (by omega)
  have a1 : i % (c.length : Int) < c.length := Int.emod_lt_of_pos _ (by omega)
  unfold cv
  rw [neg_len, neg_getD (by omega)]
theorem sq_neg {h c : BL} (hc : c ≠ []) (n : Nat) : sq (neg h) (neg c) n = !sq h c n := by
  by_cases z : n < h.length
  · rw [sq_lo (by rw [neg_len]; exact z), sq_lo z, neg_getD z]
  · rw [sq_hi (by rw [neg_len]; omega), sq_hi (by omega), neg_len, cv_neg hc]
theorem mny_neg {c : BL} (hc : c ≠ []) : ∀ (xs : BL) (j : Nat), mny (neg c) (neg xs) j = mny c xs j
  | [], _ => rfl
  | x :: xs, j => by
    show (if (!x) = cv (neg c) (-1 - (j : Int)) then mny (neg c) (neg xs) (j + 1) + 1 else 0) = (if x = cv c (-1 - (j : Int)) then mny c xs (j + 1) + 1 else 0)
    rw [cv_neg hc, mny_neg hc xs (j + 1)]
    have : ((!x) = !cv c (-1 - (j : Int))) ↔ x = cv c (-1 - (j : Int)) := by
      cases x <;> cases cv c (-1 - (j : Int)) <;> simp
    simp only [this]
theorem Stl.neg {h c : BL} (s : Stl h c) : Stl (neg h) (neg c) := by
  refine ⟨neg_ne s.nc, ?_, ?_⟩
  · rw [neg_len]
    refine s.mi.iff fun d => ?_
    constructor
    · intro z i
      rw [cv_neg s.nc, cv_neg s.nc, z]
    · intro z i
      have := z i
      rw [cv_neg s.nc, cv_neg s.nc] at this
      revert this
      cases cv c (i + (d : Int)) <;> cases cv c i <;> simp
  · show mny (Mw.neg c) (Mw.neg h).reverse 0 = 0
    have e : (Mw.neg h).reverse = Mw.neg h.reverse := (List.map_reverse ..).symm
    rw [e, mny_neg s.nc]
    exact s.mz
/-- no number -/
theorem Stl.none {h c : BL} (s : Stl h c) (hn : ∀ n, sq h c n = false) : h = [] ∧ c = [false] := by
  have hp := len_pos s.nc
  have hc0 : ∀ i, cv c i = false := fun i => by
    have a0 : 0 ≤ i % (c.length : Int) := Int.emod_nonneg _ (by omega)
    have e : cv c i = cv c (i % (c.length : Int)) := cv_mod (by rw [Int.emod_emod])
    have := hn (h.length + (i % (c.length : Int)).toNat)
    rw [sq_hi (by omega)] at this
    rw [e, ← this]
    congr 1
    omega
  have hl : c.length = 1 := by
    have := s.mi.le 1 (by decide) (fun i => by rw [hc0, hc0])
    omega
  have hcf : c = [false] := by
    match c, hl, hc0 with
    | [b], _, hc0 =>
      have := hc0 0
      have e : cv [b] 0 = b := rfl
      rw [e] at this
      rw [this]
  refine ⟨?_, hcf⟩
  cases hh : h.reverse with
  | nil => exact List.reverse_eq_nil_iff.mp hh
  | cons x xs =>
    exfalso
    have hm := s.mz
    unfold mn at hm
    rw [hh] at hm
    have hm : (if x = cv c (-1 - ((0 : Nat) : Int)) then mny c xs (0 + 1) + 1 else 0) = 0 := hm
    by_cases z : x = cv c (-1 - ((0 : Nat) : Int))
    · rw [if_pos z] at hm
      omega
    · rw [hc0] at z
      have hpos : 0 < h.length := by
        have := congrArg List.length hh
        simp at this
        omega
      have e : h.getD (h.length - 1) false = x := by
        have := getD_rev (h := h) (k := 0) hpos
        rw [hh] at this
        rw [show h.length - 1 - 0 = h.length - 1 by omega] at this
        exact this.symm
      have := hn (h.length - 1)
      rw [sq_lo (by omega), e] at this
      exact z this
/-! ### two sets in step -/
/-- the items of a set, stretched -/
def str (h c : BL) (n : Nat) : BL := (List.range n).map fun k => sq h c k
theorem strc_len (h c : BL) (n : Nat) : (str h c n).length = n := by simp [str]
theorem str_get {h c : BL} {n k : Nat} (hk : k < n) : (str h c n).getD k false = sq h c k := getD_map_range hk
theorem sq_per {h c : BL} {n m : Nat} (hn : h.length ≤ n) (hd : c.length ∣ m) : sq h c (n + m) = sq h c n := by
  rw [sq_hi (by omega), sq_hi hn]
  refine cv_mod ?_
  obtain ⟨k, hk⟩ := hd
  rw [show ((n + m : Nat) : Int) - (h.length : Int) = ((n : Int) - (h.length : Int)) + (c.length : Int) * (k : Int) by rw [hk, Int.natCast_add, Int.natCast_mul]; omega, Int.add_mul_emod_self_left]
def andL (a b : BL) : BL := (List.zip a b).map fun x => x.1 && x.2
theorem andL_str (h1 c1 h2 c2 : BL) (n : Nat) : andL (str h1 c1 n) (str h2 c2 n) = (List.range n).map fun k => sq h1 c1 k && sq h2 c2 k := by
  unfold andL str
  rw [List.zip_map', List.map_map]
  rfl
/-- the common part: a head so long as both, a cycle in step with both (or behind which there is nothing) -/
theorem com_sq {h1 c1 h2 c2 : BL} {hs cs : Nat} (l1 : h1.length ≤ hs) (l2 : h2.length ≤ hs) (hc : 0 < cs) (d : (c1.length ∣ cs ∧ c2.length ∣ cs) ∨ c1 = [false] ∨ c2 = [false]) (n : Nat) :
    sq ((andL (str h1 c1 (hs + cs)) (str h2 c2 (hs + cs))).take hs) ((andL (str h1 c1 (hs + cs)) (str h2 c2 (hs + cs))).drop hs) n = (sq h1 c1 n && sq h2 c2 n) := by
  rw [andL_str]
  generalize hI : ((List.range (hs + cs)).map fun k => sq h1 c1 k && sq h2 c2 k) = I
  have il : I.length = hs + cs := by rw [← hI]; simp
  have ig : ∀ k, k < hs + cs → I.getD k false = (sq h1 c1 k && sq h2 c2 k) := fun k hk => by rw [← hI, getD_map_range hk]
  have tl : (I.take hs).length = hs := by rw [List.length_take]; omega
  have dl : (I.drop hs).length = cs := by rw [List.length_drop]; omega
  by_cases z : n < hs
  · rw [sq_lo (by rw [tl]; exact z), getD_take z, ig n (by omega)]
  · rw [sq_hi (by rw [tl]; omega), tl]
    have a0 : 0 ≤ ((n : Int) - (hs : Int)) % (cs : Int) := Int.emod_nonneg _ (by omega)
    have a1 : ((n : Int) - (hs : Int)) % (cs : Int) < cs := Int.emod_lt_of_pos _ (by omega)
    obtain ⟨m, hm⟩ : ∃ m : Nat, (((n : Int) - (hs : Int)) % (cs : Int)).toNat = m := ⟨_, rfl⟩
    have e1 : cv (I.drop hs) ((n : Int) - (hs : Int)) = (sq h1 c1 (hs + m) && sq h2 c2 (hs + m)) := by
      unfold cv
      rw [dl, hm, List.getD_eq_getElem?_getD, List.getElem?_drop, ← List.getD_eq_getElem?_getD, ig _ (by omega)]
    rw [e1]
    rcases d with ⟨d1, d2⟩ | d | d
    · have en : n = hs + m + cs * ((n - hs) / cs) := by
        have := Nat.div_add_mod (n - hs) cs
        have h3 : (n - hs) % cs = m := by
          rw [← hm, show (n : Int) - (hs : Int) = ((n - hs : Nat) : Int) by omega, ← Int.natCast_emod, Int.toNat_natCast]
        omega
      rw [en, sq_per (h := h1) (by omega) (Nat.dvd_trans d1 ⟨_, rfl⟩), sq_per (h := h2) (by omega) (Nat.dvd_trans d2 ⟨_, rfl⟩)]
    · have : ∀ k, h1.length ≤ k → sq h1 c1 k = false := fun k hk => by
        rw [sq_hi hk, d]
        unfold cv
        have : (((k : Int) - (h1.length : Int)) % (([false] : BL).length : Int)).toNat = 0 := by
          show (((k : Int) - (h1.length : Int)) % 1).toNat = 0
          rw [Int.emod_one]
          rfl
        rw [this]
        rfl
      rw [this _ (by omega), this _ (by omega)]
      rfl
    · have : ∀ k, h2.length ≤ k → sq h2 c2 k = false := fun k hk => by
        rw [sq_hi hk, d]
        unfold cv
        have : (((k : Int) - (h2.length : Int)) % (([false] : BL).length : Int)).toNat = 0 := by
          show (((k : Int) - (h2.length : Int)) % 1).toNat = 0
          rw [Int.emod_one]
          rfl
        rw [this]
        rfl
      rw [this _ (by omega), this _ (by omega), Bool.and_false, Bool.and_false]
end Mw

namespace Mw
open PySem L2
/-! ### tuples of True and False -/
def TA (K : PySem.W.Frag) (H : Hp) (v : V) (bs : BL) : Prop := ∃ p, v = .ref p ∧ Tn.NT K H p (bs.map V.bl)
theorem TA.same {K : PySem.W.Frag} {H H' : Hp} {v : V} {bs : BL} (s : Same H H') (h : TA K H v bs) : TA K H' v bs := by
  obtain ⟨p, e, h1⟩ := h
  exact ⟨p, e, Tn.same s h1⟩
/-- the pair of a head and a cycle -/
def PA (K : PySem.W.Frag) (H : Hp) (v : V) (x : BL × BL) : Prop := ∃ p a b, v = .ref p ∧ SqT K H p [a, b] ∧ TA K H a x.1 ∧ TA K H b x.2
theorem PA.same {K : PySem.W.Frag} {H H' : Hp} {v : V} {x : BL × BL} (s : Same H H') (h : PA K H v x) : PA K H' v x := by
  obtain ⟨p, a, b, e, h1, h2, h3⟩ := h
  exact ⟨p, a, b, e, Ts.same s h1, h2.same s, h3.same s⟩
def bsD (bs : BL) : PyData := .tuple (bs.map .bool)
theorem dpl {K : PySem.W.Frag} {H : Hp} : ∀ bs : BL, DpAll K H (bs.map V.bl) (bs.map .bool)
  | [] => .nil
  | b :: bs => .cons (.bl b) (dpl bs)
theorem TA.dp {K : PySem.W.Frag} {H : Hp} {v : V} {bs : BL} (h : TA K H v bs) : Dp K H v (bsD bs) := by
  obtain ⟨p, rfl, h1⟩ := h
  exact .tup h1.1 (dpl bs)
theorem PA.dp {K : PySem.W.Frag} {H : Hp} {v : V} {x : BL × BL} (h : PA K H v x) : Dp K H v (.tuple [bsD x.1, bsD x.2]) := by
  obtain ⟨p, a, b, rfl, h1, h2, h3⟩ := h
  exact .tup h1 (.cons h2.dp (.cons h3.dp .nil))
theorem eqv_all : ∀ a b : BL, PyData.eqvAll (a.map .bool) (b.map .bool) = decide (a = b)
  | [], [] => rfl
  | [], _ :: _ => rfl
  | _ :: _, [] => rfl
  | x :: a, y :: b => by
    show ((x == y) && PyData.eqvAll (a.map .bool) (b.map .bool)) = _
    rw [eqv_all a b, Bool.eq_iff_iff]
    simp
theorem eqv_bs (a b : BL) : PyData.eqv (bsD a) (bsD b) = decide (a = b) := eqv_all a b
theorem can_all : ∀ a : BL, PyData.canLayAll0 (a.map .bool) = true
  | [] => rfl
  | _ :: a => can_all a
theorem dep_all : ∀ a : BL, PyData.depthAll (a.map .bool) = 0
  | [] => rfl
  | b :: a => by
    show max (PyData.depth (.bool b)) (PyData.depthAll (a.map .bool)) = 0
    rw [dep_all a]
    rfl
theorem shp (a : BL) : SeqAt.shaped (bsD a) = true := by
  unfold SeqAt.shaped
  rw [Bool.and_eq_true]
  refine ⟨can_all a, decide_eq_true ?_⟩
  show PyData.depthAll (a.map .bool) + 1 ≤ 64
  rw [dep_all]
  decide
theorem shp2 (a b : BL) : SeqAt.shaped (.tuple [bsD a, bsD b]) = true := by
  unfold SeqAt.shaped
  rw [Bool.and_eq_true]
  refine ⟨?_, decide_eq_true ?_⟩
  · show (PyData.canLayAll0 (a.map .bool) && (PyData.canLayAll0 (b.map .bool) && true)) = true
    rw [can_all, can_all]
    rfl
  · show max (PyData.depthAll (a.map .bool) + 1) (max (PyData.depthAll (b.map .bool) + 1) 0) + 1 ≤ 64
    rw [dep_all, dep_all]
    decide
section
variable {P : Program} {w : World} {K : PySem.W.Frag} {mg : Str → Option Value} {base : Heap}
/-! ### prime_factors -/
abbrev sPf : Stmt := top 13
abbrev nPf : List Str := ["number", "factors", "factor"]
theorem scPf : FnScope nPf ["number"] (defScope sPf) := ⟨rfl, rfl, rfl, by decide +kernel, rfl, by decide +kernel, by decide +kernel⟩
def nV (n : Nat) : V := .int (n : Int)
def spPf : Sp := fun vs H Q _ => ∃ n : Nat, vs = [nV n] ∧ 1 ≤ n ∧ n < 1000 ∧ ∀ l H', Same H H' → H' l = some (.lst ((pf n).map nV)) → Q (.ref l) H'
theorem ok_pf {f : Addr} {fd : FuncData} (F : Fun K "prime_factors" "prime_factors" sPf f fd) : FnOk P w K mg base CX0 1 f fd ["number"] spPf := by
  refine F.ok scPf (fun vs H Q E h => ?_) (fun cdv A outer s H vs Q E hr h => ?_)
  · obtain ⟨n, rfl, _⟩ := h
    rfl
  obtain ⟨n, rfl, h0, h1, q⟩ := h
  have nd := scPf.nd
  refine ⟨_, pss_cons (ps_set (i := 1) nd rfl (.inl rfl) (pe_lst pa_nil))
    (pss_cons (ps_set (i := 2) nd rfl (.inl rfl) pe_int)
    (pss_cons (ps_while PassesOwn.never (pt_cmpR op_le (pe_op op_mul (pv 2) (pv 2)) (pv 0) (nomark _))
      (pss_one (ps_if (pt_cmpR op_eq (pe_op op_mod (pv 0) (pv 2)) pe_int (nomark _))
        (pss_cons (ps_expr (pe_bm PySem.F.plainAttrs_list PySem.F.slot_list_append PySem.F.type_list_append mt_append (pv 1) (pa_cons (pv 2) pa_nil)))
          (pss_one (ps_set (i := 0) nd rfl (.inl rfl) (pe_op op_fdiv (pv 0) (pv 2)))))
        (pss_one (ps_aug (i := 2) nd rfl (.inl rfl) pe_int ip_add)))))
    (pss_one (ps_ret (pe_ifExp (pt_cmpR op_gt (pv 0) pe_int (nomark _)) (pe_op op_cat (pv 1) (pe_lst (pa_cons (pv 0) pa_nil))) (pv 1)))))), ?_⟩
  refine ⟨Nat.zero_le _, fun l hl => ?_⟩
  have s1 : Same H (upd H l (.lst [])) := same_new hl _
  let J : Nat → L2.St → Hp → Prop := fun fu σ H' => ∃ (m g : Nat) (acc : List Nat), σ = [some (nV m), some (.ref l), some (nV g)] ∧ Same H H' ∧ H' l = some (.lst (acc.map nV)) ∧ pf n = acc ++ pfF fu m g ∧ 2 * m < fu + g ∧ 1 ≤ fu ∧ 2 ≤ g ∧ 1 ≤ m ∧ g + fu ≤ 2 * n + 2 ∧ acc.length + fu ≤ 2 * n
  refine ⟨J, ⟨2 * n, n, 2, [], rfl, s1, upd_same, rfl, by omega, by omega, by omega, h0, by omega, by simp⟩, ?_⟩
  rintro fu σ H' ⟨m, g, acc, rfl, s', hl', hpf, i1, i2, i3, i4, i6, i7⟩
  refine ⟨_, rfl, _, rfl, _, _, rfl, rfl, .inl ⟨by omega, by omega⟩, ?_⟩
  refine ⟨_, rfl, _, _, rfl, rfl, _, rfl, ?_⟩
  obtain ⟨fu', rfl⟩ : ∃ fu', fu = fu' + 1 := ⟨fu - 1, by omega⟩
  have e1 : pfF (fu' + 1) m g = if g * g ≤ m then (if m % g = 0 then g :: pfF fu' (m / g) g else pfF fu' m (g + 1)) else if 1 < m then [m] else [] := rfl
  have hgg : (g : Int) * (g : Int) = ((g * g : Nat) : Int) := by simp
  refine ite2 (fun c => ?_) (fun c => ?_)
  · have c' : g * g ≤ m := by
      have := of_decide_eq_true c
      rw [hgg] at this
      omega
    rw [e1, if_pos c'] at hpf
    have g2 : 2 * g ≤ g * g := Nat.mul_le_mul_right g i3
    refine ⟨J fu', fun σ' H' h => ⟨fu', by omega, h⟩, ?_⟩
    refine ⟨_, rfl, _, rfl, _, _, rfl, rfl, by show (0 : Int) < (g : Int); omega, rfl, _, rfl, ?_⟩
    have hmod : (m : Int) % (g : Int) = ((m % g : Nat) : Int) := by simp
    refine ite2 (fun c2 => ?_) (fun c2 => ?_)
    · have c3 : m % g = 0 := by
        have : (V.int ((m : Int) % (g : Int))) = V.int 0 := of_decide_eq_true c2
        injection this with this
        rw [hmod] at this
        omega
      rw [if_pos c3] at hpf
      refine ⟨_, rfl, .inl ⟨rfl, _, SqL.of hl'⟩, _, rfl, l, _, _, rfl, rfl, hl', sz_line (by rw [List.length_map]; omega), ?_⟩
      refine ⟨_, rfl, _, rfl, _, _, rfl, rfl, ⟨by omega, by omega⟩, ?_⟩
      have hdiv : (m : Int) / (g : Int) = ((m / g : Nat) : Int) := by simp
      have d1 : m / g * g ≤ m := Nat.div_mul_le_self m g
      have d2 : m / g * 2 ≤ m / g * g := Nat.mul_le_mul_left _ i3
      have d3 : 1 ≤ m / g := (Nat.le_div_iff_mul_le (by omega)).mpr (by omega)
      refine ⟨m / g, g, acc ++ [g], ?_, same_mut s' hl _, ?_, ?_, by omega, by omega, i3, d3, by omega, by rw [List.length_append, List.length_singleton]; omega⟩
      · show _ = [some (V.int ((m / g : Nat) : Int)), _, _]
        rw [← hdiv]
        rfl
      · rw [upd_same, List.map_append]
        rfl
      · rw [hpf, List.append_assoc]
        rfl
    · have c3 : ¬ m % g = 0 := fun z => c2 (by
        show decide (V.int ((m : Int) % (g : Int)) = V.int 0) = true
        rw [hmod, z]
        rfl)
      rw [if_neg c3] at hpf
      refine ⟨_, rfl, _, _, rfl, rfl, m, g + 1, acc, ?_, s', hl', hpf, by omega, by omega, by omega, i4, by omega, by omega⟩
      show _ = [_, _, some (V.int ((g + 1 : Nat) : Int))]
      rw [show ((g + 1 : Nat) : Int) = (g : Int) + 1 by omega]
      rfl
  · have c' : ¬ g * g ≤ m := fun z => c (by
      show decide ((g : Int) * (g : Int) ≤ (m : Int)) = true
      rw [hgg]
      exact decide_eq_true (by omega))
    rw [e1, if_neg c'] at hpf
    refine ⟨_, rfl, _, _, rfl, rfl, _, rfl, ?_⟩
    refine ite2 (fun c2 => ?_) (fun c2 => ?_)
    · have c3 : 1 < m := by
        have := of_decide_eq_true c2
        omega
      rw [if_pos c3] at hpf
      refine ⟨_, rfl, _, rfl, by show 1 ≤ sizeLine; decide, fun l2 hl2 => ?_⟩
      have t1 : Same H' (upd H' l2 (.lst [nV m])) := same_new hl2 _
      refine ⟨l, l2, _, _, rfl, rfl, t1 _ _ hl', upd_same, le_line (by rw [List.length_map]; show acc.length + 1 < 10000000; omega), fun l3 hl3 => ?_⟩
      refine q l3 _ ((s'.trans t1).trans (same_new hl3 _)) ?_
      rw [upd_same, hpf, List.map_append]
      rfl
    · have c3 : ¬ 1 < m := by
        have := of_decide_eq_false (Bool.eq_false_iff.mpr c2)
        omega
      rw [if_neg c3, List.append_nil] at hpf
      rw [← hpf] at hl'
      exact ⟨_, rfl, q l H' s' hl'⟩
end
end Mw

namespace Mw
open PySem L2
theorem cut_map (bs : BL) (lo hi : Option Int) : cutV (bs.map V.bl) lo hi = ((bs.drop (HT.sIx bs.length 0 lo)).take (HT.sIx bs.length bs.length hi - HT.sIx bs.length 0 lo)).map V.bl := by
  unfold cutV
  rw [List.length_map, List.map_take, List.map_drop]
theorem cut_to {bs : BL} {k : Nat} (hk : k ≤ bs.length) : cutV (bs.map V.bl) none (some (k : Int)) = (bs.take k).map V.bl := by
  rw [cut_map, HT.sIx_none, HT.sIx_nat, Nat.min_eq_left hk, List.drop_zero, Nat.sub_zero]
theorem cut_from {bs : BL} {k : Nat} (hk : k ≤ bs.length) : cutV (bs.map V.bl) (some (k : Int)) none = (bs.drop k).map V.bl := by
  rw [cut_map, HT.sIx_none, HT.sIx_nat, Nat.min_eq_left hk, List.take_of_length_le (by rw [List.length_drop]; omega)]
theorem cut_mid {bs : BL} {j k : Nat} (hj : j ≤ bs.length) (hk : k ≤ bs.length) : cutV (bs.map V.bl) (some (j : Int)) (some (k : Int)) = ((bs.drop j).take (k - j)).map V.bl := by
  rw [cut_map, HT.sIx_nat, HT.sIx_nat, Nat.min_eq_left hk, Nat.min_eq_left hj]
theorem at_bl {bs : BL} {k : Nat} (hk : k < bs.length) : atI (bs.map V.bl) (k : Int) = some (.bl (bs.getD k false)) :=
  atI_nat (by rw [List.getElem?_map, List.getElem?_eq_getElem hk, List.getD_eq_getElem?_getD, List.getElem?_eq_getElem hk]; rfl)
theorem at_back {bs : BL} {k : Nat} (hk : k < bs.length) : atI (bs.map V.bl) (-1 - (k : Int)) = some (.bl (bs.getD (bs.length - 1 - k) false)) := by
  have e : ixN (bs.map V.bl).length (-1 - (k : Int)) = some (bs.length - 1 - k) := by
    unfold ixN
    rw [List.length_map, if_neg (by omega), if_pos (by omega)]
    congr 1
    omega
  unfold atI
  rw [e]
  · show (bs.map V.bl)[bs.length - 1 - k]? = _
    rw [List.getElem?_map, List.getElem?_eq_getElem (by omega), List.getD_eq_getElem?_getD, List.getElem?_eq_getElem (by omega)]
    rfl
theorem back_mod {p : Nat} (hp : 0 < p) (j : Nat) : ((-1 - (j : Int)) % (p : Int)).toNat = p - 1 - j % p := by
  have hm := Nat.mod_lt j hp
  have hd := Nat.div_add_mod j p
  have e : -1 - (j : Int) = ((p - 1 - j % p : Nat) : Int) + (p : Int) * (-((j / p : Nat) : Int) - 1) := by
    have : (j : Int) = (p : Int) * ((j / p : Nat) : Int) + ((j % p : Nat) : Int) := by
      rw [← Int.natCast_mul, ← Int.natCast_add, hd]
    rw [Int.mul_sub, Int.mul_neg, Int.mul_one]
    omega
  rw [e, Int.add_mul_emod_self_left, Int.emod_eq_of_lt (by omega) (by omega)]
  omega
theorem cv_back {c : BL} (hc : c ≠ []) (j : Nat) : cv c (-1 - (j : Int)) = c.getD (c.length - 1 - j % c.length) false := by
  unfold cv
  rw [back_mod (len_pos hc)]
theorem rot_split {c : BL} {t : Nat} (ht : t ≤ c.length) : c.drop t ++ c.take t = rot c (t : Int) := by
  refine List.ext_getElem (by rw [rot_len]; simp; omega) fun k k1 k2 => ?_
  rw [rot_len] at k2
  simp only [rot, List.getElem_map, List.getElem_range]
  unfold cv
  rw [List.getElem_append]
  split
  · rename_i h
    rw [List.length_drop] at h
    rw [show (((k : Int) + (t : Int)) % (c.length : Int)).toNat = t + k by rw [Int.emod_eq_of_lt (by omega) (by omega)]; omega, List.getD_eq_getElem?_getD, List.getElem?_eq_getElem (by omega), List.getElem_drop]
    rfl
  · rename_i h
    rw [List.length_drop] at h
    have e : ((k : Int) + (t : Int)) % (c.length : Int) = ((k + t - c.length : Nat) : Int) := by
      rw [show (k : Int) + (t : Int) = ((k + t - c.length : Nat) : Int) + (c.length : Int) * 1 by omega, Int.add_mul_emod_self_left, Int.emod_eq_of_lt (by omega) (by omega)]
    rw [e, Int.toNat_natCast, List.getD_eq_getElem?_getD, List.getElem?_eq_getElem (by omega), List.getElem_take]
    simp only [List.length_drop, Option.getD_some]
    congr 1
    omega
theorem rot_turn {c : BL} (hc : c ≠ []) (m : Nat) : rot c ((c.length - m % c.length : Nat) : Int) = rot c (-(m : Int)) := by
  unfold rot
  refine List.map_congr_left fun k _ => cv_mod ?_
  have hp := len_pos hc
  have hm := Nat.mod_lt m hp
  have hd := Nat.div_add_mod m c.length
  have e : (k : Int) + ((c.length - m % c.length : Nat) : Int) = ((k : Int) + (-(m : Int))) + (c.length : Int) * (1 + ((m / c.length : Nat) : Int)) := by
    have : (m : Int) = (c.length : Int) * ((m / c.length : Nat) : Int) + ((m % c.length : Nat) : Int) := by
      rw [← Int.natCast_mul, ← Int.natCast_add, hd]
    rw [Int.mul_add, Int.mul_one]
    omega
  rw [e, Int.add_mul_emod_self_left]
section
variable {P : Program} {w : World} {K : PySem.W.Frag} {mg : Str → Option Value} {base : Heap}
/-! ### shortest_cycle -/
abbrev sSc : Stmt := top 14
abbrev nSc : List Str := ["cycle", "size", "factor", "shorter"]
theorem scSc : FnScope nSc ["cycle"] (defScope sSc) := ⟨rfl, rfl, rfl, by decide +kernel, rfl, by decide +kernel, by decide +kernel⟩
def spSc (K : PySem.W.Frag) : Sp := fun vs H Q _ => ∃ (v : V) (c : BL), vs = [v] ∧ TA K H v c ∧ c ≠ [] ∧ c.length < 1000 ∧ ∀ v' H', Same H H' → TA K H' v' (sc c) → Q v' H'
theorem scF_drop {c : BL} {fs : List Nat} {i f s : Nat} (h : fs[i]? = some f) : scF c (fs.drop i) s = scF c (fs.drop (i + 1)) (if (c.drop (s / f)).take (s - s / f) = c.take (s - s / f) then s / f else s) := by
  have e : fs.drop i = f :: fs.drop (i + 1) := by
    obtain ⟨h1, h2⟩ := List.getElem?_eq_some_iff.mp h
    rw [List.drop_eq_getElem_cons h1, h2]
  rw [e]
  rfl
theorem ok_sc {f fP : Addr} {fd fdP : FuncData} (F : Fun K "shortest_cycle" "shortest_cycle" sSc f fd)
    (GP : FnOk P w K mg base CX0 1 fP fdP ["number"] spPf) (bP : Binds K fdP ["number"] []) (kP : PySem.W.keepIn K (.ref fP) = true) (mP : mg "prime_factors" = some (.ref fP)) (ml : mg "len" = none) :
    FnOk P w K mg base CX0 2 f fd ["cycle"] (spSc K) := by
  refine F.ok scSc (fun vs H Q E h => ?_) (fun cdv A outer s H vs Q E hr h => ?_)
  · obtain ⟨v, c, rfl, _⟩ := h
    rfl
  obtain ⟨v, c, rfl, ⟨p, rfl, hp⟩, hc, h1k, q⟩ := h
  have nd := scSc.nd
  refine ⟨_, pss_cons (ps_set (i := 1) nd rfl (.inl rfl) (pe_callB call_len_seq (by rfl) ml PySem.boot_len (pa_cons (pv 0) pa_nil)))
    (pss_cons (ps_for PassesOwn.never rfl (pi_list (pe_call GP hr rfl mP kP bP .nil pass0 (pa_cons (pv 1) pa_nil))) (pg_name (i := 2) nd rfl (.inl rfl))
      (pss_cons (ps_set (i := 3) nd rfl (.inl rfl) (pe_op op_fdiv (pv 1) (pv 2)))
      (pss_one (ps_if (pt_cmpR (op_eqD hr.units) (pe_slice Tn.sl (pv 0) (po_some (pv 3)) (po_some (pv 1))) (pe_slice Tn.sl (pv 0) po_none (po_some (pe_op op_sub (pv 1) (pv 3)))) (nomark _))
        (pss_one (ps_set (i := 1) nd rfl (.inl rfl) (pv 3))) pss_nil))))
    (pss_one (ps_ret (pe_slice Tn.sl (pv 0) po_none (po_some (pv 1)))))), ?_⟩
  have hpos := len_pos hc
  refine ⟨_, rfl, p, _, rfl, .inr hp.1, ?_⟩
  rw [List.length_map]
  refine ⟨_, rfl, c.length, rfl, by omega, by omega, fun l H1 s1 hl => ⟨l, rfl, ⟨_, SqL.of hl⟩, ?_⟩⟩
  refine for_list (xs := (pf c.length).map nV) (fun i σ H' => ∃ (z : Nat) (o2 o3 : Option V), σ = [some (.ref p), some (nV z), o2, o3] ∧ Same H1 H' ∧ z ≤ c.length ∧ scF c ((pf c.length).drop i) z = scF c (pf c.length) c.length) ⟨c.length, _, _, rfl, Same.refl _, Nat.le_refl _, rfl⟩ (fun i σ H' _ ⟨_, _, _, _, s', _⟩ => SqL.of (s' _ _ hl)) ?_ ?_
  · rintro i x σ H' hx ⟨z, o2, o3, rfl, s', hz, hsc⟩
    rw [List.getElem?_map] at hx
    obtain ⟨g, hg, rfl⟩ := Option.map_eq_some_iff.mp hx
    have g2 := pf_pos hpos (List.mem_of_getElem? hg)
    rw [scF_drop hg] at hsc
    have hp1 : Tn.NT K H1 p (c.map V.bl) := Tn.same s1 hp
    have hd : (fun i j : Int => V.int (i / j)) (z : Int) (g : Int) = V.int ((z / g : Nat) : Int) := by
      show V.int ((z : Int) / (g : Int)) = _
      rw [← Int.natCast_ediv]
    have hdz : z / g ≤ z := Nat.div_le_self z g
    generalize z / g = t at hd hdz hsc
    refine ⟨_, rfl, _, rfl, _, _, rfl, rfl, ⟨by omega, by omega⟩, ?_⟩
    rw [hd]
    refine ⟨_, rfl, _, rfl, _, rfl, _, rfl, _, rfl, p, _, rfl, Tn.same s' hp1, fun p1 H2 s2 ht1 => ?_⟩
    rw [cut_mid (by omega) hz] at ht1
    refine ⟨_, rfl, _, rfl, _, rfl, _, _, rfl, rfl, _, rfl, p, _, rfl, Tn.same (s'.trans s2) hp1, fun p2 H3 s3 ht2 => ?_⟩
    rw [show ((z : Nat) : Int) - ((t : Nat) : Int) = ((z - t : Nat) : Int) by omega, cut_to (by omega)] at ht2
    refine ⟨_, _, TA.dp ⟨p1, rfl, Tn.same s3 ht1⟩, TA.dp ⟨p2, rfl, ht2⟩, shp _, shp _, ?_⟩
    rw [eqv_bs]
    refine ⟨_, rfl, ?_⟩
    refine ite2 (fun e => ?_) (fun e => ?_)
    · rw [if_pos (of_decide_eq_true e)] at hsc
      exact ⟨_, rfl, t, _, _, rfl, (s'.trans s2).trans s3, by omega, hsc⟩
    · rw [if_neg (of_decide_eq_false (Bool.eq_false_iff.mpr e))] at hsc
      exact ⟨z, _, _, rfl, (s'.trans s2).trans s3, hz, hsc⟩
  · rintro σ H' ⟨z, o2, o3, rfl, s', hz, hsc⟩
    rw [List.length_map, List.drop_length] at hsc
    have hz2 : scF c (pf c.length) c.length = z := hsc.symm
    refine ⟨_, rfl, _, rfl, _, rfl, p, _, rfl, Tn.same (s1.trans s') hp, fun p1 H2 s2 ht1 => ?_⟩
    rw [cut_to hz] at ht1
    refine q (.ref p1) H2 ((s1.trans s').trans s2) ⟨p1, rfl, ?_⟩
    unfold sc
    rw [hz2]
    exact ht1
end
end Mw

namespace Mw
open PySem L2
section
variable {P : Program} {w : World} {K : PySem.W.Frag} {mg : Str → Option Value} {base : Heap}
/-! ### turned_back -/
abbrev sTb : Stmt := top 15
abbrev nTb : List Str := ["head", "cycle", "many", "turn"]
theorem scTb : FnScope nTb ["head", "cycle", "many"] (defScope sTb) := ⟨rfl, rfl, rfl, by decide +kernel, rfl, by decide +kernel, by decide +kernel⟩
def spTb (K : PySem.W.Frag) : Sp := fun vs H Q _ => ∃ (v1 v2 : V) (h c : BL) (m : Nat), vs = [v1, v2, nV m] ∧ TA K H v1 h ∧ TA K H v2 c ∧ c ≠ [] ∧ c.length < 100000 ∧ h.length < 100000 ∧ m ≤ h.length ∧ ∀ v' H', Same H H' → PA K H' v' (h.take (h.length - m), rot c (-(m : Int))) → Q v' H'
theorem ok_tb {f : Addr} {fd : FuncData} (F : Fun K "turned_back" "turned_back" sTb f fd) (ml : mg "len" = none) : FnOk P w K mg base CX0 1 f fd ["head", "cycle", "many"] (spTb K) := by
  refine F.ok scTb (fun vs H Q E h => ?_) (fun cdv A outer s H vs Q E hr h => ?_)
  · obtain ⟨v1, v2, h, c, m, rfl, _⟩ := h
    rfl
  obtain ⟨v1, v2, h, c, m, rfl, ⟨p, rfl, hp⟩, ⟨r, rfl, hr1⟩, hc, hl1, hl2, hm, q⟩ := h
  have nd := scTb.nd
  refine ⟨_, pss_cons (ps_set (i := 3) nd rfl (.inl rfl) (pe_op op_sub (pe_callB call_len_seq (by rfl) ml PySem.boot_len (pa_cons (pv 1) pa_nil)) (pe_op op_mod (pv 2) (pe_callB call_len_seq (by rfl) ml PySem.boot_len (pa_cons (pv 1) pa_nil)))))
    (pss_one (ps_ret (pe_tup (pa_cons (pe_slice Tn.sl (pv 0) po_none (po_some (pe_op op_sub (pe_callB call_len_seq (by rfl) ml PySem.boot_len (pa_cons (pv 0) pa_nil)) (pv 2))))
      (pa_cons (pe_op Tn.cat (pe_slice Tn.sl (pv 1) (po_some (pv 3)) po_none) (pe_slice Tn.sl (pv 1) po_none (po_some (pv 3)))) pa_nil))))), ?_⟩
  have hpos := len_pos hc
  have hmm := Nat.mod_lt m hpos
  refine ⟨_, rfl, r, _, rfl, .inr hr1.1, ?_⟩
  rw [List.length_map]
  refine ⟨_, rfl, _, rfl, r, _, rfl, .inr hr1.1, ?_⟩
  rw [List.length_map]
  refine ⟨_, _, rfl, rfl, by show (0 : Int) < (c.length : Int); omega, _, _, rfl, rfl, ?_⟩
  have e1 : (fun i j : Int => V.int (i - j)) (c.length : Int) ((m : Int) % (c.length : Int)) = V.int ((c.length - m % c.length : Nat) : Int) := by
    show V.int ((c.length : Int) - (m : Int) % (c.length : Int)) = _
    rw [← Int.natCast_emod]
    congr 1
    omega
  rw [e1]
  have ht : c.length - m % c.length ≤ c.length := by omega
  have hrt := rot_split (c := c) ht
  rw [rot_turn hc] at hrt
  generalize c.length - m % c.length = t at ht hrt
  refine ⟨_, rfl, _, rfl, p, _, rfl, .inr hp.1, ?_⟩
  rw [List.length_map]
  refine ⟨_, rfl, _, _, rfl, rfl, _, rfl, p, _, rfl, hp, fun p1 H1 s1 t1 => ?_⟩
  rw [show ((h.length : Nat) : Int) - ((m : Nat) : Int) = ((h.length - m : Nat) : Int) by omega, cut_to (by omega)] at t1
  refine ⟨_, rfl, _, rfl, _, rfl, r, _, rfl, Tn.same s1 hr1, fun p2 H2 s2 t2 => ?_⟩
  rw [cut_from ht] at t2
  refine ⟨_, rfl, _, rfl, _, rfl, r, _, rfl, Tn.same (s1.trans s2) hr1, fun p3 H3 s3 t3 => ?_⟩
  rw [cut_to ht] at t3
  refine ⟨p2, p3, _, _, rfl, rfl, Tn.same s3 t2, t3, le_line (by rw [List.length_map, List.length_map, List.length_drop, List.length_take]; omega), fun p4 H4 s4 t4 => ?_⟩
  rw [← List.map_append, hrt] at t4
  refine ⟨by show 2 ≤ sizeLine; decide, fun u hu => ?_⟩
  have s5 : Same H4 (upd H4 u (.tup [.ref p1, .ref p4])) := same_new hu _
  exact q (.ref u) _ ((((s1.trans s2).trans s3).trans s4).trans s5) ⟨u, .ref p1, .ref p4, rfl, SqT.of upd_same, ⟨p1, rfl, Tn.same (((s2.trans s3).trans s4).trans s5) t1⟩, ⟨p4, rfl, Tn.same s5 t4⟩⟩
/-! ### settled -/
abbrev sSe : Stmt := top 16
abbrev nSe : List Str := ["head", "cycle", "many"]
theorem scSe : FnScope nSe ["head", "cycle"] (defScope sSe) := ⟨rfl, rfl, rfl, by decide +kernel, rfl, by decide +kernel, by decide +kernel⟩
def spSe (K : PySem.W.Frag) : Sp := fun vs H Q _ => ∃ (a b : Addr) (h c : BL), vs = [.ref a, .ref b] ∧ (SqL K H a (h.map V.bl) ∨ Tn.NT K H a (h.map V.bl)) ∧ (SqL K H b (c.map V.bl) ∨ Tn.NT K H b (c.map V.bl)) ∧ c ≠ [] ∧ c.length < 1000 ∧ sc c ≠ [] ∧ h.length < 100000 ∧
  ∀ v' H', Same H H' → PA K H' v' (stl h c) → Q v' H'
theorem seq_same {H H' : Hp} {a : Addr} {xs : List V} (s : Same H H') (h : SqL K H a xs ∨ Tn.NT K H a xs) : SqL K H' a xs ∨ Tn.NT K H' a xs := h.elim (fun h => .inl (s.seq h)) fun h => .inr (Tn.same s h)
theorem ok_se {f fS fT : Addr} {fd fdS fdT : FuncData} (F : Fun K "settled" "settled" sSe f fd)
    (GS : FnOk P w K mg base CX0 2 fS fdS ["cycle"] (spSc K)) (bS : Binds K fdS ["cycle"] []) (kS : PySem.W.keepIn K (.ref fS) = true) (mS : mg "shortest_cycle" = some (.ref fS))
    (GT : FnOk P w K mg base CX0 1 fT fdT ["head", "cycle", "many"] (spTb K)) (bT : Binds K fdT ["head", "cycle", "many"] []) (kT : PySem.W.keepIn K (.ref fT) = true) (mT : mg "turned_back" = some (.ref fT))
    (ml : mg "len" = none) (mt : mg "tuple" = none) : FnOk P w K mg base CX0 3 f fd ["head", "cycle"] (spSe K) := by
  refine F.ok scSe (fun vs H Q E h => ?_) (fun cdv A outer s H vs Q E hr h => ?_)
  · obtain ⟨a, b, h, c, rfl, _⟩ := h
    rfl
  obtain ⟨a, b, h, c, rfl, ha, hb, hc, h1k, hsc, hl, q⟩ := h
  have nd := scSe.nd
  refine ⟨_, pss_cons (ps_set (i := 0) nd rfl (.inl rfl) (pe_callTy Tn.tup (by rfl) mt (by decide +kernel) (pa_cons (pv 0) pa_nil)))
    (pss_cons (ps_set (i := 1) nd rfl (.inl rfl) (pe_call GS hr rfl mS kS bS .nil pass0 (pa_cons (pe_callTy Tn.tup (by rfl) mt (by decide +kernel) (pa_cons (pv 1) pa_nil)) pa_nil)))
    (pss_cons (ps_set (i := 2) nd rfl (.inl rfl) pe_int)
    (pss_cons (ps_while PassesOwn.never (PW.pt (pw_and (pt_cmpR op_lt (pv 2) (pe_callB call_len_seq (by rfl) ml PySem.boot_len (pa_cons (pv 0) pa_nil)) (nomark _))
        (pw_and1 (pt_cmpR op_eq (pe_ix ix_tup (pv 0) (pe_op op_sub (pe_un un_neg pe_int) (pv 2)) (fun _ _ => rfl))
          (pe_ix ix_tup (pv 1) (pe_op op_sub (pe_un un_neg pe_int) (pe_op op_mod (pv 2) (pe_callB call_len_seq (by rfl) ml PySem.boot_len (pa_cons (pv 1) pa_nil)))) (fun _ _ => rfl)) (nomark _)))))
      (pss_one (ps_aug (i := 2) nd rfl (.inl rfl) pe_int ip_add)))
    (pss_one (ps_ret (pe_call GT (hr.mono (by decide)) rfl mT kT bT .nil pass0 (pa_cons (pv 0) (pa_cons (pv 1) (pa_cons (pv 2) pa_nil))))))))), ?_⟩
  refine ⟨_, rfl, a, _, rfl, ha, fun p H1 s1 hp => ?_⟩
  refine ⟨_, rfl, b, _, rfl, seq_same s1 hb, fun p2 H2 s2 hp2 => ?_⟩
  refine ⟨.ref p2, c, rfl, ⟨p2, rfl, hp2⟩, hc, h1k, fun v3 H3 s3 ⟨r, er, hr3⟩ => ?_⟩
  subst er
  have s13 := s2.trans s3
  have hp3 := Tn.same s13 hp
  have hpos := len_pos hsc
  have hml := mn_le h (sc c)
  refine ⟨fun m σ H' => ∃ j, j ≤ h.length ∧ m = h.length - j ∧ σ = [some (.ref p), some (.ref r), some (nV j)] ∧ H' = H3 ∧ mn h (sc c) = j + mny (sc c) (h.reverse.drop j) j, ⟨h.length, 0, by omega, rfl, rfl, rfl, by unfold mn; simp⟩, ?_⟩
  rintro m σ H' ⟨j, hj, rfl, rfl, rfl, hmn⟩
  refine ⟨_, rfl, _, rfl, p, _, rfl, .inr hp3.1, ?_⟩
  rw [List.length_map]
  refine ⟨_, _, rfl, rfl, _, rfl, ?_⟩
  have fin : mn h (sc c) = j → tRet (tCall (spTb K) [] E0 (tCons (tVar 0) (tCons (tVar 1) (tCons (tVar 2) tNil)))) { nx := fun _ H' => Q V.non H', rt := Q } [some (.ref p), some (.ref r), some (nV j)] H' := fun e => by
    refine ⟨_, rfl, _, rfl, _, rfl, .ref p, .ref r, h, sc c, j, rfl, ⟨p, rfl, hp3⟩, ⟨r, rfl, hr3⟩, hsc, ?_, hl, hj, fun v4 H4 s4 h4 => ?_⟩
    · have : (sc c).length ≤ c.length := by
        unfold sc
        rw [List.length_take]
        omega
      omega
    · rw [← e] at h4
      exact q v4 H4 ((s1.trans s13).trans s4) h4
  by_cases hlt : j < h.length
  · rw [show decide ((j : Int) < (h.length : Int)) = true from decide_eq_true (by omega)]
    have ed : h.reverse.drop j = h.getD (h.length - 1 - j) false :: h.reverse.drop (j + 1) := by
      rw [List.drop_eq_getElem_cons (by rw [List.length_reverse]; exact hlt)]
      congr 1
      rw [← getD_rev hlt, List.getD_eq_getElem?_getD, List.getElem?_eq_getElem (by rw [List.length_reverse]; exact hlt)]
      rfl
    rw [ed] at hmn
    have hmn' : mn h (sc c) = j + (if h.getD (h.length - 1 - j) false = cv (sc c) (-1 - (j : Int)) then mny (sc c) (h.reverse.drop (j + 1)) (j + 1) + 1 else 0) := hmn
    refine ⟨_, rfl, 1, rfl, _, rfl, _, _, rfl, rfl, p, _, _, _, rfl, rfl, hp3.1, at_back hlt, ?_⟩
    refine ⟨_, rfl, 1, rfl, _, rfl, _, rfl, r, _, rfl, .inr hr3.1, ?_⟩
    rw [List.length_map]
    refine ⟨_, _, rfl, rfl, by show (0 : Int) < ((sc c).length : Int); omega, _, _, rfl, rfl, ?_⟩
    have hmm := Nat.mod_lt j hpos
    refine ⟨r, _, -1 - ((j % (sc c).length : Nat) : Int), _, rfl, ?_, hr3.1, at_back hmm, rfl, _, rfl, ?_⟩
    · rw [Int.natCast_emod]
    rw [← cv_back hsc j, dec_bl]
    by_cases e : h.getD (h.length - 1 - j) false = cv (sc c) (-1 - (j : Int))
    · rw [if_pos e] at hmn'
      rw [show (h.getD (h.length - 1 - j) false == cv (sc c) (-1 - (j : Int))) = true by rw [e]; simp]
      refine ⟨fun σ H2 => σ = [some (.ref p), some (.ref r), some (nV (j + 1))] ∧ H2 = H', fun σ' H2 ⟨e1, e2⟩ => ⟨h.length - (j + 1), by omega, j + 1, by omega, rfl, e1, e2, by omega⟩, ?_⟩
      refine ⟨_, rfl, _, _, rfl, rfl, ?_, rfl⟩
      show _ = [_, _, some (V.int ((j + 1 : Nat) : Int))]
      rw [show ((j + 1 : Nat) : Int) = (j : Int) + 1 by omega]
      rfl
    · rw [if_neg e] at hmn'
      rw [show (h.getD (h.length - 1 - j) false == cv (sc c) (-1 - (j : Int))) = false by simpa using e]
      exact fin hmn'
  · rw [show decide ((j : Int) < (h.length : Int)) = false from decide_eq_false (by omega)]
    refine fin ?_
    have : j = h.length := by omega
    rw [this, List.drop_of_length_le (by simp)] at hmn
    rw [this]
    exact hmn
end
end Mw

namespace Mw
open PySem L2
theorem SqT.go {K : PySem.W.Frag} {B p : Addr} {H H' : Hp} {bs xs : List V} (hB : H B = some (.lst bs)) (g : Go B H H') (h : SqT K H p xs) : SqT K H' p xs := by
  rcases h with (h | ⟨o, h⟩) | h
  · exact Or.inl (Or.inl (g.ext _ _ (by rintro rfl; rw [hB] at h; cases h) h))
  · exact Or.inl (Or.inr ⟨o, g.ext _ _ (by rintro rfl; rw [hB] at h; cases h) h⟩)
  · exact Or.inr h
theorem TA.go {K : PySem.W.Frag} {B d : Addr} {H H' : Hp} {v : V} {bs : BL} (b : Box H B d) (g : Go B H H') (h : TA K H v bs) : TA K H' v bs := by
  obtain ⟨p, e, h1⟩ := h
  obtain ⟨ds, i, hB, _⟩ := b
  exact ⟨p, e, ⟨SqT.go hB g h1.1, h1.2.elim (fun ⟨ob, e1, e2⟩ => .inl ⟨ob, g.ext _ _ (by rintro rfl; rw [hB] at e1; cases e1) e1, e2⟩) .inr⟩⟩
theorem PA.go {K : PySem.W.Frag} {B d : Addr} {H H' : Hp} {v : V} {x : BL × BL} (b : Box H B d) (g : Go B H H') (h : PA K H v x) : PA K H' v x := by
  obtain ⟨p, a1, a2, e, h1, h2, h3⟩ := h
  obtain ⟨ds, i, hB, _⟩ := id b
  exact ⟨p, a1, a2, e, SqT.go hB g h1, h2.go b g, h3.go b g⟩
section
variable {P : Program} {w : World} {K : PySem.W.Frag} {mg : Str → Option Value} {base : Heap}
/-! ### contains, _law_in -/
end
end Mw

namespace Mw
open PySem L2
def rLn (K : PySem.W.Frag) : List V → Hp → VK → Prop := fun xs H Q => ∃ p ys, xs = [.ref p] ∧ (SqL K H p ys ∨ SqT K H p ys) ∧ Q (.int ys.length) H
def tAdd (ta tb : TE) : TE := tOp (rI0 fun i j => V.int (i + j)) ta tb
theorem take_row {h c : BL} {s : Nat} (hs : s ≤ h.length) : ((List.range s).map fun (k : Nat) => sq h c k) = h.take s := by
  refine List.ext_getElem (by simp; omega) fun k k1 k2 => ?_
  have k3 : k < s := by simpa using k1
  simp only [List.getElem_map, List.getElem_range, List.getElem_take]
  rw [sq_lo (by omega), List.getD_eq_getElem?_getD, List.getElem?_eq_getElem (by omega)]
  rfl
theorem row_cv {h c : BL} (n : Nat) : ((List.range n).map fun (k : Nat) => sq h c (h.length + k)) = (List.range n).map fun (k : Nat) => cv c (k : Int) :=
  List.map_congr_left fun k _ => by
    rw [sq_hi (by omega)]
    congr 1
    omega
theorem range_snoc (n : Nat) (g : Nat → V) : (List.range (n + 1)).map g = (List.range n).map g ++ [g n] := by
  rw [List.range_succ, List.map_append]
  rfl
section
variable {P : Program} {w : World} {K : PySem.W.Frag} {mg : Str → Option Value} {base : Heap}
/-! ### _law_row -/
/-! ### _law_far -/
end
end Mw

namespace Mw
open PySem L2
theorem fr_get {c : BL} (hc : c ≠ []) : ∀ (k j : Nat), j < k * c.length → (List.replicate k c).flatten.getD j false = c.getD (j % c.length) false
  | 0, j, h => by omega
  | k + 1, j, h => by
    have hp := len_pos hc
    rw [List.replicate_succ, List.flatten_cons]
    by_cases z : j < c.length
    · rw [List.getD_eq_getElem?_getD, List.getElem?_append_left z, Nat.mod_eq_of_lt z, List.getD_eq_getElem?_getD]
    · have h2 : j - c.length < k * c.length := by
        rw [Nat.add_mul] at h
        omega
      rw [List.getD_eq_getElem?_getD, List.getElem?_append_right (by omega), ← List.getD_eq_getElem?_getD, fr_get hc k _ h2]
      congr 1
      rw [← Nat.mod_eq_sub_mod (by omega)]
theorem fr_len (c : BL) : ∀ k : Nat, (List.replicate k c).flatten.length = k * c.length
  | 0 => by simp
  | k + 1 => by rw [List.replicate_succ, List.flatten_cons, List.length_append, fr_len c k, Nat.add_mul]; omega
theorem str_of {h c : BL} (hc : c ≠ []) {m : Nat} : h ++ ((List.replicate (m / c.length + 1) c).flatten.take m) = str h c (h.length + m) := by
  have hp := len_pos hc
  have hm : m < (m / c.length + 1) * c.length := by
    have := Nat.div_add_mod m c.length
    have := Nat.mod_lt m hp
    rw [Nat.add_mul, Nat.one_mul, Nat.mul_comm]
    omega
  have hl : ((List.replicate (m / c.length + 1) c).flatten.take m).length = m := by
    rw [List.length_take, fr_len]
    omega
  refine List.ext_getElem (by rw [List.length_append, hl, strc_len]) fun k k1 k2 => ?_
  rw [strc_len] at k2
  simp only [str, List.getElem_map, List.getElem_range]
  by_cases z : k < h.length
  · rw [List.getElem_append_left z, sq_lo z, List.getD_eq_getElem?_getD, List.getElem?_eq_getElem z]
    rfl
  · have e : (h ++ (List.replicate (m / c.length + 1) c).flatten.take m).getD k false = cv c ((k : Int) - (h.length : Int)) := by
      rw [List.getD_eq_getElem?_getD, List.getElem?_append_right (by omega), List.getElem?_take_of_lt (by omega), ← List.getD_eq_getElem?_getD, fr_get hc _ _ (by omega)]
      unfold cv
      rw [show (k : Int) - (h.length : Int) = ((k - h.length : Nat) : Int) by omega, ← Int.natCast_emod, Int.toNat_natCast]
    rw [sq_hi (by omega), ← e, List.getD_eq_getElem?_getD, List.getElem?_eq_getElem k1]
    rfl
theorem lc_zipT {K : PySem.W.Frag} {a b : Addr} {xs ys : List V} {g : TG} {tt : TT} {te : TE} {vs : List Nat} {σ : L2.St} {H1 : Hp} {D : Addr} {Qd : Hp → Prop} (Pv : Nat → Hp → Prop) (hn : xs.length = ys.length) (h0 : Pv 0 (upd H1 D (.lst []))) (hl : ∀ i H, Pv i H → SqT K H a xs ∧ SqT K H b ys)
    (hs : ∀ i x y T H, xs[i]? = some x → ys[i]? = some y → H T = none → Pv i H → g (.ref T) (wipe σ vs) (upd H T (.tup [x, y])) fun σ2 H2 => wipe σ2 vs = wipe σ vs ∧ tt σ2 H2 fun b H3 =>
      if b = true then te σ2 H3 fun y H4 => ∃ acc, H4 D = some (.lst acc) ∧ acc.length < sizeLine ∧ Pv (i + 1) (upd H4 D (.lst (acc ++ [y]))) else Pv (i + 1) H3) (hd : ∀ H, Pv xs.length H → Qd H) :
    ∃ W : Nat → Nat → Hp → Prop, (∃ m, W 0 m (upd H1 D (.lst []))) ∧ ∀ i m H, W i m H →
      ((RZ.ItzT K a b).stop i H ∧ Qd H) ∨ ((RZ.ItzT K a b).go i H ∧ ∃ Nx : Hp → Prop, (∀ H', Nx H' → ∃ m', m' < m ∧ W (i + 1) m' H') ∧ ∀ x H', (RZ.ItzT K a b).yld i H x H' → g x (wipe σ vs) H' fun σ2 H2 => wipe σ2 vs = wipe σ vs ∧ tt σ2 H2 fun b H3 =>
        if b = true then te σ2 H3 fun y H4 => ∃ acc, H4 D = some (.lst acc) ∧ acc.length < sizeLine ∧ Nx (upd H4 D (.lst (acc ++ [y]))) else Nx H3) := by
  refine ⟨fun i m H => m = xs.length - i ∧ i ≤ xs.length ∧ Pv i H, ⟨xs.length, by simp, Nat.zero_le _, h0⟩, ?_⟩
  rintro i m H ⟨rfl, hi, p⟩
  obtain ⟨q1, q2⟩ := hl i H p
  by_cases hlt : i < xs.length
  · have hlt2 : i < ys.length := by omega
    refine .inr ⟨⟨xs, ys, xs[i], ys[i], q1, q2, by simp [hlt], by simp [hlt2]⟩, Pv (i + 1), fun H' p' => ⟨xs.length - (i + 1), by omega, rfl, hlt, p'⟩, fun v H' yl => ?_⟩
    obtain ⟨T, x, y, rfl, hT, rfl, e1, e2⟩ := yl
    exact hs i x y T H (e1 xs q1) (e2 ys q2) hT p
  · have : i = xs.length := by omega
    subst this
    exact .inl ⟨⟨xs, ys, q1, q2, .inl (Nat.le_refl _)⟩, hd H p⟩
section
variable {P : Program} {w : World} {K : PySem.W.Frag} {mg : Str → Option Value} {base : Heap}
/-! ### stretched -/
abbrev sSt : Stmt := top 17
abbrev nSt : List Str := ["one", "head_size", "cycle_size", "head", "cycle", "missing"]
theorem scSt : FnScope nSt ["one", "head_size", "cycle_size"] (defScope sSt) := ⟨rfl, rfl, rfl, by decide +kernel, rfl, by decide +kernel, by decide +kernel⟩
def spSt (K : PySem.W.Frag) : Sp := fun vs H Q _ => ∃ (v : V) (h c : BL) (a b : Nat), vs = [v, nV a, nV b] ∧ PA K H v (h, c) ∧ c ≠ [] ∧ h.length ≤ a ∧ a + b ≤ 900 ∧ c.length ≤ 900 ∧ ∀ v' H', Same H H' → TA K H' v' (str h c (a + b)) → Q v' H'
theorem ok_st {f : Addr} {fd : FuncData} (F : Fun K "stretched" "stretched" sSt f fd) (ml : mg "len" = none) : FnOk P w K mg base CX0 1 f fd ["one", "head_size", "cycle_size"] (spSt K) := by
  refine F.ok scSt (fun vs H Q E h => ?_) (fun cdv A outer s H vs Q E hr h => ?_)
  · obtain ⟨v, h, c, a, b, rfl, _⟩ := h
    rfl
  obtain ⟨v, h, c, a, b, rfl, ⟨u, a1, a2, rfl, hu, ⟨p, ep, hp⟩, ⟨r, er, hr1⟩⟩, hc, hl, hab, hcl, q⟩ := h
  subst ep er
  have hp : Tn.NT K H p (h.map V.bl) := hp
  have hr1 : Tn.NT K H r (c.map V.bl) := hr1
  have nd := scSt.nd
  have hpos := len_pos hc
  refine ⟨_, pss_cons (ps_asg (pv 0) (pg_tup rfl (pgs_cons (pg_name (i := 3) nd rfl (.inl rfl)) (pgs_cons (pg_name (i := 4) nd rfl (.inl rfl)) pgs_nil))))
    (pss_cons (ps_set (i := 5) nd rfl (.inl rfl) (pe_op op_sub (pe_op op_add (pv 1) (pv 2)) (pe_callB call_len_seq (by rfl) ml PySem.boot_len (pa_cons (pv 3) pa_nil))))
    (pss_one (ps_ret (pe_op Tn.cat (pv 3) (pe_slice Tn.sl (pe_op Tn.rep (pv 4) (pe_op op_add (pe_op op_fdiv (pv 5) (pe_callB call_len_seq (by rfl) ml PySem.boot_len (pa_cons (pv 4) pa_nil))) pe_int)) po_none (po_some (pv 5))))))), ?_⟩
  refine ⟨_, rfl, u, _, rfl, hu, rfl, .ref p, _, rfl, .ref r, [], rfl, rfl, ?_⟩
  refine ⟨_, rfl, _, rfl, _, _, rfl, rfl, _, rfl, p, _, rfl, .inr hp.1, ?_⟩
  rw [List.length_map]
  refine ⟨_, _, rfl, rfl, ?_⟩
  have e1 : (a : Int) + (b : Int) - (h.length : Int) = ((a + b - h.length : Nat) : Int) := by omega
  rw [show (fun i j : Int => V.int (i - j)) ((a : Int) + (b : Int)) (h.length : Int) = V.int ((a + b - h.length : Nat) : Int) from congrArg V.int e1]
  generalize hm : a + b - h.length = m
  have hdl : m / c.length ≤ m := Nat.div_le_self _ _
  refine ⟨_, rfl, _, rfl, _, rfl, _, rfl, r, _, rfl, .inr hr1.1, ?_⟩
  rw [List.length_map]
  refine ⟨_, _, rfl, rfl, ⟨by omega, by omega⟩, _, _, rfl, rfl, ?_⟩
  have e2 : (m : Int) / (c.length : Int) + 1 = ((m / c.length + 1 : Nat) : Int) := by
    rw [Int.natCast_add, Int.natCast_ediv]
    rfl
  have hk9 : ((m / c.length + 1 : Nat) : Int) ≤ 1000 := by omega
  have hk1 : (1 : Int) ≤ ((m / c.length + 1 : Nat) : Int) := Int.ofNat_le.mpr (Nat.le_add_left 1 (m / c.length))
  rw [show (fun i j : Int => V.int (i + j)) ((m : Int) / (c.length : Int)) 1 = V.int ((m / c.length + 1 : Nat) : Int) from congrArg V.int e2]
  refine ⟨r, _, _, rfl, rfl, hr1, by simpa using hc, by omega, hk9, by rw [List.length_map]; omega, fun p2 H2 s2 t2 => ?_⟩
  rw [Int.toNat_natCast] at t2
  have t2' : Tn.NT K H2 p2 (((List.replicate (m / c.length + 1) c).flatten).map V.bl) := by
    rw [List.map_flatten, List.map_replicate]
    exact t2
  have hlen : m ≤ ((List.replicate (m / c.length + 1) c).flatten).length := by
    rw [fr_len, Nat.add_mul, Nat.one_mul, Nat.mul_comm]
    have := Nat.div_add_mod m c.length
    have := Nat.mod_lt m hpos
    omega
  refine ⟨_, rfl, _, rfl, p2, _, rfl, t2', fun p3 H3 s3 t3 => ?_⟩
  rw [cut_to hlen] at t3
  refine ⟨p, p3, _, _, rfl, rfl, Tn.same (s2.trans s3) hp, t3, le_line (by rw [List.length_map, List.length_map, List.length_take]; omega), fun p4 H4 s4 t4 => ?_⟩
  rw [← List.map_append, str_of hc, show h.length + m = a + b by omega] at t4
  exact q (.ref p4) H4 ((s2.trans s3).trans s4) ⟨p4, rfl, t4⟩
end
end Mw

namespace Mw
open PySem L2
theorem take_neg {bs : BL} {i : Nat} {b : Bool} (h : bs[i]? = some b) : neg (bs.take (i + 1)) = neg (bs.take i) ++ [!b] := by
  unfold neg
  rw [List.take_succ, h, List.map_append]
  rfl
theorem get_bl {bs : BL} {i : Nat} {x : V} (h : (bs.map V.bl)[i]? = some x) : ∃ b, bs[i]? = some b ∧ x = .bl b := by
  rw [List.getElem?_map] at h
  obtain ⟨b, h1, h2⟩ := Option.map_eq_some_iff.mp h
  exact ⟨b, h1, h2.symm⟩
section
variable {P : Program} {w : World} {K : PySem.W.Frag} {mg : Str → Option Value} {base : Heap}
/-! ### complement -/
abbrev sCp : Stmt := top 20
abbrev nCp : List Str := ["one", "head", "cycle", "inside"]
theorem scCp : FnScope nCp ["one"] (defScope sCp) := ⟨rfl, rfl, rfl, by decide +kernel, rfl, by decide +kernel, by decide +kernel⟩
def spCp (K : PySem.W.Frag) : Sp := fun vs H Q _ => ∃ (v : V) (x : BL × BL), vs = [v] ∧ PA K H v x ∧ x.1.length < 100000 ∧ x.2.length < 100000 ∧ ∀ v' H', Same H H' → PA K H' v' (neg x.1, neg x.2) → Q v' H'
theorem ok_cp {f : Addr} {fd : FuncData} (F : Fun K "complement" "complement" sCp f fd) (mt : mg "tuple" = none) : FnOk P w K mg base CX0 1 f fd ["one"] (spCp K) := by
  refine F.ok scCp (fun vs H Q E h => ?_) (fun cdv A outer s H vs Q E hr h => ?_)
  · obtain ⟨v, x, rfl, _⟩ := h
    rfl
  obtain ⟨v, ⟨h, c⟩, rfl, ⟨u, a1, a2, rfl, hu, ⟨p, ep, hp⟩, ⟨r, er, hr1⟩⟩, l1, l2, q⟩ := h
  subst ep er
  have hp : Tn.NT K H p (h.map V.bl) := hp
  have hr1 : Tn.NT K H r (c.map V.bl) := hr1
  have l1 : h.length < 100000 := l1
  have l2 : c.length < 100000 := l2
  have nd := scCp.nd
  refine ⟨_, pss_cons (ps_asg (pv 0) (pg_tup rfl (pgs_cons (pg_name (i := 1) nd rfl (.inl rfl)) (pgs_cons (pg_name (i := 2) nd rfl (.inl rfl)) pgs_nil))))
    (pss_one (ps_ret (pe_tup (pa_cons (pe_callTy Tn.tup (by rfl) mt (by decide +kernel) (pa_cons
        (pe_lc (own := [("inside", 3)]) (g := gName 3) (tt := tYes) (te := tNotV (tVar 3)) rfl nd (pi_tup (pv 1)) (blkOk_by (N := nCp) (sc := defScope sCp) (by decide +kernel))
          (fun _ _ _ _ _ => pg_name (i := 3) nd rfl (.inl rfl)) (fun _ _ _ _ _ => pts_nil) (fun _ _ _ _ _ => pe_not (pv 3))) pa_nil))
      (pa_cons (pe_callTy Tn.tup (by rfl) mt (by decide +kernel) (pa_cons
        (pe_lc (own := [("inside", 3)]) (g := gName 3) (tt := tYes) (te := tNotV (tVar 3)) rfl nd (pi_tup (pv 2)) (blkOk_by (N := nCp) (sc := defScope sCp) (by decide +kernel))
          (fun _ _ _ _ _ => pg_name (i := 3) nd rfl (.inl rfl)) (fun _ _ _ _ _ => pts_nil) (fun _ _ _ _ _ => pe_not (pv 3))) pa_nil)) pa_nil))))), ?_⟩
  refine ⟨_, rfl, u, _, rfl, hu, rfl, .ref p, _, rfl, .ref r, [], rfl, rfl, ?_⟩
  refine ⟨_, rfl, p, rfl, ⟨_, hp.1⟩, fun D hD => ?_⟩
  have s1 : Same H (upd H D (.lst [])) := same_new hD _
  refine lc_tup (xs := h.map V.bl) (fun i H' => Same H H' ∧ H' D = some (.lst ((neg (h.take i)).map V.bl))) ⟨s1, upd_same⟩ (fun i H' _ ⟨s', _⟩ => Ts.same s' hp.1) ?_ ?_
  · rintro i x H' hx ⟨s', hD'⟩
    obtain ⟨b, hb, rfl⟩ := get_bl hx
    have hi := (List.getElem?_eq_some_iff.mp hb).1
    refine ⟨rfl, _, rfl, b, rfl, _, hD', sz_line (by rw [List.length_map, neg_len, List.length_take]; omega), same_mut s' hD _, ?_⟩
    rw [upd_same, take_neg hb, List.map_append]
    rfl
  rintro H1 ⟨s1', hD1⟩
  rw [List.length_map, List.take_length] at hD1
  refine ⟨D, _, rfl, .inl (SqL.of hD1), fun p1 H2 s2 t2 => ?_⟩
  refine ⟨_, rfl, r, rfl, ⟨_, Ts.same (s1'.trans s2) hr1.1⟩, fun D2 hD2 => ?_⟩
  have s3 : Same H2 (upd H2 D2 (.lst [])) := same_new hD2 _
  refine lc_tup (xs := c.map V.bl) (fun i H' => Same H2 H' ∧ H' D2 = some (.lst ((neg (c.take i)).map V.bl))) ⟨s3, upd_same⟩ (fun i H' _ ⟨s', _⟩ => Ts.same ((s1'.trans s2).trans s') hr1.1) ?_ ?_
  · rintro i x H' hx ⟨s', hD'⟩
    obtain ⟨b, hb, rfl⟩ := get_bl hx
    have hi := (List.getElem?_eq_some_iff.mp hb).1
    refine ⟨rfl, _, rfl, b, rfl, _, hD', sz_line (by rw [List.length_map, neg_len, List.length_take]; omega), same_mut s' hD2 _, ?_⟩
    rw [upd_same, take_neg hb, List.map_append]
    rfl
  rintro H4 ⟨s4, hD4⟩
  rw [List.length_map, List.take_length] at hD4
  refine ⟨D2, _, rfl, .inl (SqL.of hD4), fun p3 H5 s5 t5 => ⟨by show 2 ≤ sizeLine; decide, fun z hz => ?_⟩⟩
  have s6 : Same H5 (upd H5 z (.tup [.ref p1, .ref p3])) := same_new hz _
  exact q (.ref z) _ (((((s1'.trans s2).trans s4).trans s5)).trans s6) ⟨z, .ref p1, .ref p3, rfl, SqT.of upd_same, ⟨p1, rfl, Tn.same ((s4.trans s5).trans s6) t2⟩, ⟨p3, rfl, Tn.same s6 t5⟩⟩
/-! ### is_empty -/
/-- what the row says of a set that stands in the module -/
def KP (K : PySem.W.Frag) (mg : Str → Option Value) (nm : Str) (x : BL × BL) : Prop := ∃ n : Addr, mg nm = some (.ref n) ∧ ∀ H, PA K H (.ref n) x
end
end Mw

namespace Mw
open PySem L2
/-- what stands in settled form, and which numbers are in it -/
def Gs (y : BL × BL) (f : Nat → Bool) : Prop := Stl y.1 y.2 ∧ ∀ n, sq y.1 y.2 n = f n
def hsz (x y : BL × BL) : Nat := max x.1.length y.1.length
theorem u65 {k : Nat} {A : Around} (r : Room k A) : A.units + 65 < cLine := by
  have := r.un
  omega
theorem andL_take {a b : BL} {i : Nat} {x y : Bool} (hx : a[i]? = some x) (hy : b[i]? = some y) : andL (a.take (i + 1)) (b.take (i + 1)) = andL (a.take i) (b.take i) ++ [x && y] := by
  have h1 := (List.getElem?_eq_some_iff.mp hx).1
  have h2 := (List.getElem?_eq_some_iff.mp hy).1
  unfold andL
  rw [List.take_succ, List.take_succ, hx, hy]
  show ((List.zip (a.take i ++ [x]) (b.take i ++ [y])).map fun x => x.1 && x.2) = _
  rw [List.zip_append (by rw [List.length_take, List.length_take]; omega), List.map_append]
  rfl
theorem andL_len {a b : BL} (h : a.length = b.length) : (andL a b).length = a.length := by
  unfold andL
  rw [List.length_map, List.length_zip]
  omega
theorem cutL_to {bs : BL} {k : Nat} (hk : k ≤ bs.length) : cutV (bs.map V.bl) none (some (k : Int)) = (bs.take k).map V.bl := cut_to hk
theorem stl_dvd {h c : BL} (hc : c ≠ []) : (stl h c).2.length ∣ c.length := by
  obtain ⟨q, hq⟩ := ex_min hc
  have e := sc_eq hc hq
  have h1 : (stl h c).2.length = q := by
    unfold stl
    rw [rot_len, e.1, List.length_take, Nat.min_eq_left e.2]
  rw [h1]
  exact hq.dvd (per_len c)
section
variable {P : Program} {w : World} {K : PySem.W.Frag} {mg : Str → Option Value} {base : Heap}
/-! ### common -/
abbrev sCm : Stmt := top 21
abbrev nCm : List Str := ["one", "other", "head_size", "cycle_size", "first", "second", "inside", "in_one", "in_other"]
theorem scCm : FnScope nCm ["one", "other"] (defScope sCm) := ⟨rfl, rfl, rfl, by decide +kernel, rfl, by decide +kernel, by decide +kernel⟩
def spCm (K : PySem.W.Frag) (g : Bool → Bool → Bool) : Sp := fun vs H Q _ => ∃ (v1 v2 : V) (x y : BL × BL), vs = [v1, v2] ∧ PA K H v1 x ∧ PA K H v2 y ∧ x.2 ≠ [] ∧ y.2 ≠ [] ∧ hsz x y + Nat.lcm x.2.length y.2.length ≤ 900 ∧ x.2.length ≤ 900 ∧ y.2.length ≤ 900 ∧
  ∀ v' H' z, Same H H' → PA K H' v' z → Gs z (fun n => g (sq x.1 x.2 n) (sq y.1 y.2 n)) → z.1.length ≤ hsz x y → z.2.length ∣ Nat.lcm x.2.length y.2.length → Q v' H'
theorem ok_cm {f fS fT : Addr} {fd fdS fdT : FuncData} (F : Fun K "common" "common" sCm f fd)
    (GS : FnOk P w K mg base CX0 3 fS fdS ["head", "cycle"] (spSe K)) (bS : Binds K fdS ["head", "cycle"] []) (kS : PySem.W.keepIn K (.ref fS) = true) (mS : mg "settled" = some (.ref fS))
    (GT : FnOk P w K mg base CX0 1 fT fdT ["one", "head_size", "cycle_size"] (spSt K)) (bT : Binds K fdT ["one", "head_size", "cycle_size"] []) (kT : PySem.W.keepIn K (.ref fT) = true) (mT : mg "stretched" = some (.ref fT))
    (ml : mg "len" = none) (mx : mg "max" = none) (mz : mg "zip" = none) (mc : mg "lcm" = some (.builtin "math.lcm")) :
    FnOk P w K mg base CX0 4 f fd ["one", "other"] (spCm K fun a b => a && b) := by
  refine F.ok scCm (fun vs H Q E h => ?_) (fun cdv A outer s H vs Q E hr h => ?_)
  · obtain ⟨v1, v2, x, y, rfl, _⟩ := h
    rfl
  obtain ⟨v1, v2, ⟨h1, c1⟩, ⟨h2, c2⟩, rfl, hv1, hv2, n1, n2, hb, lb1, lb2, q⟩ := h
  have n1 : c1 ≠ [] := n1
  have n2 : c2 ≠ [] := n2
  have hb : max h1.length h2.length + Nat.lcm c1.length c2.length ≤ 900 := hb
  obtain ⟨u1, a1, a2, rfl, hu1, ⟨p1, ep1, hp1⟩, ⟨r1, er1, hr1⟩⟩ := id hv1
  obtain ⟨u2, b1, b2, rfl, hu2, ⟨p2, ep2, hp2⟩, ⟨r2, er2, hr2⟩⟩ := id hv2
  subst ep1 er1 ep2 er2
  have hp1 : Tn.NT K H p1 (h1.map V.bl) := hp1
  have hr1 : Tn.NT K H r1 (c1.map V.bl) := hr1
  have hp2 : Tn.NT K H p2 (h2.map V.bl) := hp2
  have hr2 : Tn.NT K H r2 (c2.map V.bl) := hr2
  have q1 := len_pos n1
  have q2 := len_pos n2
  have nd := scCm.nd
  refine ⟨_, pss_cons (ps_set (i := 2) nd rfl (.inl rfl) (pe_callB (call_max2 rfl) (by rfl) mx (by decide +kernel) (pa_cons (pe_callB call_len_seq (by rfl) ml PySem.boot_len (pa_cons (pe_ix ix_tup (pv 0) pe_int (fun _ _ => rfl)) pa_nil)) (pa_cons (pe_callB call_len_seq (by rfl) ml PySem.boot_len (pa_cons (pe_ix ix_tup (pv 1) pe_int (fun _ _ => rfl)) pa_nil)) pa_nil))))
    (pss_cons (ps_set (i := 3) nd rfl (.inl rfl) (pe_callBfun Ts.cr_lcm (by rfl) mc (pa_cons (pe_callB call_len_seq (by rfl) ml PySem.boot_len (pa_cons (pe_ix ix_tup (pv 0) pe_int (fun _ _ => rfl)) pa_nil)) (pa_cons (pe_callB call_len_seq (by rfl) ml PySem.boot_len (pa_cons (pe_ix ix_tup (pv 1) pe_int (fun _ _ => rfl)) pa_nil)) pa_nil))))
    (Evl.pss_cut (ps_if (pt_cmpR (Ts.op_inT (u65 hr)) (pe_tup (pa_cons pe_bl pa_nil)) (pe_tup (pa_cons (pe_ix ix_tup (pv 0) pe_int (fun _ _ => rfl)) (pa_cons (pe_ix ix_tup (pv 1) pe_int (fun _ _ => rfl)) pa_nil))) (by rfl)) (pss_one (ps_set (i := 3) nd rfl (.inl rfl) pe_int)) pss_nil)
    (pss_cons (ps_set (i := 4) nd rfl (.inl rfl) (pe_call GT (hr.mono (by decide)) rfl mT kT bT .nil pass0 (pa_cons (pv 0) (pa_cons (pv 2) (pa_cons (pv 3) pa_nil)))))
    (pss_cons (ps_set (i := 5) nd rfl (.inl rfl) (pe_call GT (hr.mono (by decide)) rfl mT kT bT .nil pass0 (pa_cons (pv 1) (pa_cons (pv 2) (pa_cons (pv 3) pa_nil)))))
    (pss_cons (ps_setLc (i := 6) (own := [("in_one", 7), ("in_other", 8)]) (g := gTup K 2 (gCons (gName 7) (gCons (gName 8) gNil))) (tt := tYes) (te := tAndV (tVar 7) (tVar 8)) rfl nd rfl rfl (sw_true rfl rfl rfl (by decide +kernel)) (RZ.pi_zipA rfl mz (pa_cons (pv 4) (pa_cons (pv 5) pa_nil))) (blkOk_by (N := nCm) (sc := defScope sCm) (by decide +kernel))
      (fun _ _ _ _ _ => pg_tup rfl (pgs_cons (pg_name (i := 7) nd rfl (.inl rfl)) (pgs_cons (pg_name (i := 8) nd rfl (.inl rfl)) pgs_nil))) (fun _ _ _ _ _ => pts_nil) (fun _ _ _ _ _ => pe_and (pv 7) (pe_one (pv 8))))
    (pss_one (ps_ret (pe_call GS hr rfl mS kS bS .nil pass0 (pa_cons (pe_slice sl_list (pv 6) po_none (po_some (pv 2))) (pa_cons (pe_slice sl_list (pv 6) (po_some (pv 2)) po_none) pa_nil)))))))))), ?_⟩
  refine ⟨_, rfl, u1, _, 0, .ref p1, rfl, rfl, hu1, atI_nat (j := 0) rfl, p1, _, rfl, .inr hp1.1, ?_⟩
  rw [List.length_map]
  refine ⟨_, rfl, u2, _, 0, .ref p2, rfl, rfl, hu2, atI_nat (j := 0) rfl, p2, _, rfl, .inr hp2.1, ?_⟩
  rw [List.length_map]
  refine ⟨_, _, rfl, ?_⟩
  have emax : (if ((h2.length : Nat) : Int) > ((h1.length : Nat) : Int) then ((h2.length : Nat) : Int) else ((h1.length : Nat) : Int)) = ((max h1.length h2.length : Nat) : Int) := by
    split <;> omega
  rw [emax]
  have m1 : h1.length ≤ max h1.length h2.length := Nat.le_max_left _ _
  have m2 : h2.length ≤ max h1.length h2.length := Nat.le_max_right _ _
  have qz : ∀ v' H' z, Same H H' → PA K H' v' z → Gs z (fun n => sq h1 c1 n && sq h2 c2 n) → z.1.length ≤ max h1.length h2.length → z.2.length ∣ Nat.lcm c1.length c2.length → Q v' H' := q
  generalize max h1.length h2.length = hs at hb m1 m2 qz
  refine ⟨_, rfl, u1, _, 1, .ref r1, rfl, rfl, hu1, atI_nat (j := 1) rfl, r1, _, rfl, .inr hr1.1, ?_⟩
  rw [List.length_map]
  refine ⟨_, rfl, u2, _, 1, .ref r2, rfl, rfl, hu2, atI_nat (j := 1) rfl, r2, _, rfl, .inr hr2.1, ?_⟩
  rw [List.length_map]
  have lb1 : c1.length ≤ 900 := lb1
  have lb2 : c2.length ≤ 900 := lb2
  refine ⟨c1.length, c2.length, rfl, by omega, by omega, ?_⟩
  have lcp : 0 < Nat.lcm c1.length c2.length := Nat.lcm_pos q1 q2
  have lc1 : c1.length ∣ Nat.lcm c1.length c2.length := Nat.dvd_lcm_left _ _
  have lc2 : c2.length ∣ Nat.lcm c1.length c2.length := Nat.dvd_lcm_right _ _
  generalize Nat.lcm c1.length c2.length = lc at lcp lc1 lc2 hb qz
  refine ⟨fun σ H' => ∃ cs : Nat, σ = [some (.ref u1), some (.ref u2), some (nV hs), some (nV cs), none, none, none, none, none] ∧ Same H H' ∧ 0 < cs ∧ cs ∣ lc ∧ ((c1.length ∣ cs ∧ c2.length ∣ cs) ∨ c1 = [false] ∨ c2 = [false]), ?_, ?_⟩
  · refine ⟨by show 1 ≤ sizeLine; decide, fun t1 ht1 => ?_⟩
    have s1 : Same H (upd H t1 (.tup [.bl false])) := same_new ht1 _
    refine ⟨_, rfl, u1, _, 1, .ref r1, rfl, rfl, Ts.same s1 hu1, atI_nat (j := 1) rfl, _, rfl, u2, _, 1, .ref r2, rfl, rfl, Ts.same s1 hu2, atI_nat (j := 1) rfl, by show 2 ≤ sizeLine; decide, fun t2 ht2 => ?_⟩
    have s2 : Same (upd H t1 (.tup [.bl false])) (upd (upd H t1 (.tup [.bl false])) t2 (.tup [.ref r1, .ref r2])) := same_new ht2 _
    have dT : Dp K (upd (upd H t1 (.tup [.bl false])) t2 (.tup [.ref r1, .ref r2])) (.ref t1) (bsD [false]) := .tup (Ts.same s2 (SqT.of upd_same)) (dpl [false])
    have d1 : TA K (upd (upd H t1 (.tup [.bl false])) t2 (.tup [.ref r1, .ref r2])) (.ref r1) c1 := ⟨r1, rfl, Tn.same (s1.trans s2) hr1⟩
    have d2 : TA K (upd (upd H t1 (.tup [.bl false])) t2 (.tup [.ref r1, .ref r2])) (.ref r2) c2 := ⟨r2, rfl, Tn.same (s1.trans s2) hr2⟩
    refine ⟨_, [bsD c1, bsD c2], dT, .tup (SqT.of upd_same) (.cons d1.dp (.cons d2.dp .nil)), shp _, shp2 _ _, _, rfl, ?_⟩
    have e : ([bsD c1, bsD c2].any fun z => PyData.eqv z (bsD [false])) = (decide (c1 = [false]) || (decide (c2 = [false]) || false)) := by
      show (PyData.eqv (bsD c1) (bsD [false]) || (PyData.eqv (bsD c2) (bsD [false]) || false)) = _
      rw [eqv_bs, eqv_bs]
    rw [e]
    refine ite2 (fun c => ?_) (fun c => ⟨lc, rfl, s1.trans s2, lcp, Nat.dvd_refl _, .inl ⟨lc1, lc2⟩⟩)
    have c' : c1 = [false] ∨ c2 = [false] := by simpa using c
    exact ⟨1, rfl, s1.trans s2, by decide, Nat.one_dvd _, .inr c'⟩
  rintro σ H1 ⟨cs, rfl, s1, cp, cdv, hd⟩
  have cl : cs ≤ lc := Nat.le_of_dvd lcp cdv
  refine ⟨_, rfl, _, rfl, _, rfl, .ref u1, h1, c1, hs, cs, rfl, hv1.same s1, n1, m1, by omega, lb1, fun w1 H2 s2 ⟨x1, ex1, hx1⟩ => ?_⟩
  subst ex1
  refine ⟨_, rfl, _, rfl, _, rfl, .ref u2, h2, c2, hs, cs, rfl, hv2.same (s1.trans s2), n2, m2, by omega, lb2, fun w2 H3 s3 ⟨x2, ex2, hx2⟩ => ?_⟩
  subst ex2
  have hx1' : Tn.NT K H3 x1 ((str h1 c1 (hs + cs)).map V.bl) := Tn.same s3 hx1
  generalize hA : str h1 c1 (hs + cs) = Aa at hx1'
  generalize hB : str h2 c2 (hs + cs) = Bb at hx2
  have la : Aa.length = hs + cs := by rw [← hA, strc_len]
  have lb : Bb.length = hs + cs := by rw [← hB, strc_len]
  refine ⟨_, rfl, _, rfl, x1, x2, _, _, rfl, .inr ⟨hx1'.1, hx2.1, fun D hD => ?_⟩⟩
  have s4 : Same H3 (upd H3 D (.lst [])) := same_new hD _
  refine lc_zipT (xs := Aa.map V.bl) (ys := Bb.map V.bl) (fun i H' => Same H3 H' ∧ H' D = some (.lst ((andL (Aa.take i) (Bb.take i)).map V.bl))) (by rw [List.length_map, List.length_map, la, lb]) ⟨s4, upd_same⟩ (fun i H' ⟨s', _⟩ => ⟨Ts.same s' hx1'.1, Ts.same s' hx2.1⟩) ?_ ?_
  · rintro i x y T H' hx hy hT ⟨s', hD'⟩
    obtain ⟨bx, hbx, rfl⟩ := get_bl hx
    obtain ⟨bz, hby, rfl⟩ := get_bl hy
    have hi := (List.getElem?_eq_some_iff.mp hbx).1
    have hi2 := (List.getElem?_eq_some_iff.mp hby).1
    have sT : Same H' (upd H' T (.tup [.bl bx, .bl bz])) := same_new hT _
    have hDT := sT _ _ hD'
    refine ⟨T, _, rfl, .inl (.inl upd_same), rfl, .bl bx, _, rfl, .bl bz, [], rfl, rfl, rfl, ?_⟩
    have fin : ∀ b : Bool, b = (bx && bz) → ∃ acc, upd H' T (.tup [.bl bx, .bl bz]) D = some (.lst acc) ∧ acc.length < sizeLine ∧ (Same H3 (upd (upd H' T (.tup [.bl bx, .bl bz])) D (.lst (acc ++ [.bl b]))) ∧ upd (upd H' T (.tup [.bl bx, .bl bz])) D (.lst (acc ++ [.bl b])) D = some (.lst ((andL (Aa.take (i + 1)) (Bb.take (i + 1))).map V.bl))) := by
      intro b hb'
      refine ⟨_, hDT, sz_line (by rw [List.length_map, andL_len (by rw [List.length_take, List.length_take]; omega), List.length_take]; omega), same_mut (s'.trans sT) hD _, ?_⟩
      rw [upd_same, andL_take hbx hby, List.map_append, hb']
      rfl
    refine ⟨_, rfl, bx, rfl, ?_⟩
    cases bx with
    | true => exact ⟨_, rfl, fin bz (by simp)⟩
    | false => exact fin false (by simp)
  · rintro H4 ⟨s4', hD4⟩
    rw [List.length_map, List.take_length, show Bb.take Aa.length = Bb by rw [la, ← lb, List.take_length]] at hD4
    generalize hI : andL Aa Bb = I at hD4
    have li : I.length = hs + cs := by rw [← hI, andL_len (by rw [la, lb]), la]
    refine ⟨_, rfl, _, rfl, _, rfl, D, _, rfl, SqL.of hD4, fun f1 hf1 => ?_⟩
    rw [cut_to (by omega)]
    have s5 : Same H4 (upd H4 f1 (.lst ((I.take hs).map V.bl))) := same_new hf1 _
    refine ⟨_, rfl, _, rfl, _, rfl, D, _, rfl, SqL.of (s5 _ _ hD4), fun f2 hf2 => ?_⟩
    rw [cut_from (by omega)]
    have s6 : Same (upd H4 f1 (.lst ((I.take hs).map V.bl))) (upd (upd H4 f1 (.lst ((I.take hs).map V.bl))) f2 (.lst ((I.drop hs).map V.bl))) := same_new hf2 _
    have dl : (I.drop hs).length = cs := by rw [List.length_drop]; omega
    have tl : (I.take hs).length = hs := by rw [List.length_take]; omega
    have dn : I.drop hs ≠ [] := fun e => by
      rw [e] at dl
      simp at dl
      omega
    refine ⟨f1, f2, I.take hs, I.drop hs, rfl, .inl (SqL.of (s6 _ _ upd_same)), .inl (SqL.of upd_same), dn, by omega, sc_ne dn, by omega, fun v' H5 s7 hv => ?_⟩
    have sl := stl_len (h := I.take hs) dn
    refine qz v' H5 _ ((((((s1.trans s2).trans s3).trans s4').trans s5).trans s6).trans s7) hv ⟨stl_Stl dn, fun n => ?_⟩ (by omega) (Nat.dvd_trans (stl_dvd dn) (by rw [dl]; exact cdv))
    rw [sq_stl dn, ← hI, ← hA, ← hB]
    exact com_sq m1 m2 cp hd n
end
end Mw

namespace Mw
open PySem L2
theorem hsz_neg (x y : BL × BL) : hsz (neg x.1, neg x.2) (neg y.1, neg y.2) = hsz x y := by
  unfold hsz
  rw [neg_len, neg_len]
theorem hsz_negr (x y : BL × BL) : hsz x (neg y.1, neg y.2) = hsz x y := by
  unfold hsz
  rw [neg_len]
section
variable {P : Program} {w : World} {K : PySem.W.Frag} {mg : Str → Option Value} {base : Heap}
/-! ### union, difference, is_within -/
abbrev sUn : Stmt := top 22
abbrev sDf : Stmt := top 23
theorem scUn : FnScope ["one", "other"] ["one", "other"] (defScope sUn) := ⟨rfl, rfl, rfl, by decide +kernel, rfl, by decide +kernel, by decide +kernel⟩
theorem scDf : FnScope ["one", "other"] ["one", "other"] (defScope sDf) := ⟨rfl, rfl, rfl, by decide +kernel, rfl, by decide +kernel, by decide +kernel⟩
theorem ok_un {f fM fP : Addr} {fd fdM fdP : FuncData} (F : Fun K "union" "union" sUn f fd)
    (GM : FnOk P w K mg base CX0 4 fM fdM ["one", "other"] (spCm K fun a b => a && b)) (bM : Binds K fdM ["one", "other"] []) (kM : PySem.W.keepIn K (.ref fM) = true) (mM : mg "common" = some (.ref fM))
    (GP : FnOk P w K mg base CX0 1 fP fdP ["one"] (spCp K)) (bP : Binds K fdP ["one"] []) (kP : PySem.W.keepIn K (.ref fP) = true) (mP : mg "complement" = some (.ref fP)) :
    FnOk P w K mg base CX0 5 f fd ["one", "other"] (spCm K fun a b => a || b) := by
  refine F.ok scUn (fun vs H Q E h => ?_) (fun cdv A outer s H vs Q E hr h => ?_)
  · obtain ⟨v1, v2, x, y, rfl, _⟩ := h
    rfl
  obtain ⟨v1, v2, x, y, rfl, hv1, hv2, n1, n2, hb, lb1, lb2, q⟩ := h
  have nd := scUn.nd
  have hmx : x.1.length ≤ hsz x y := Nat.le_max_left _ _
  have hmy : y.1.length ≤ hsz x y := Nat.le_max_right _ _
  refine ⟨_, pss_one (ps_ret (pe_call GP (hr.mono (by decide)) rfl mP kP bP .nil pass0 (pa_cons (pe_call GM hr rfl mM kM bM .nil pass0 (pa_cons (pe_call GP (hr.mono (by decide)) rfl mP kP bP .nil pass0 (pa_cons (pv 0) pa_nil)) (pa_cons (pe_call GP (hr.mono (by decide)) rfl mP kP bP .nil pass0 (pa_cons (pv 1) pa_nil)) pa_nil))) pa_nil))), ?_⟩
  refine ⟨_, rfl, v1, x, rfl, hv1, by omega, by omega, fun w1 H1 s1 h1 => ?_⟩
  refine ⟨_, rfl, v2, y, rfl, hv2.same s1, by omega, by omega, fun w2 H2 s2 h2 => ?_⟩
  refine ⟨w1, w2, _, _, rfl, h1.same s2, h2, neg_ne n1, neg_ne n2, ?_, ?_, ?_, fun w3 H3 z s3 h3 hg l1 l2 => ?_⟩
  · rw [hsz_neg]
    show hsz x y + Nat.lcm (neg x.2).length (neg y.2).length ≤ 900
    rw [neg_len, neg_len]
    exact hb
  · show (neg x.2).length ≤ 900
    rw [neg_len]
    exact lb1
  · show (neg y.2).length ≤ 900
    rw [neg_len]
    exact lb2
  rw [hsz_neg] at l1
  have l2 : z.2.length ∣ Nat.lcm (neg x.2).length (neg y.2).length := l2
  rw [neg_len, neg_len] at l2
  have l3 : z.2.length ≤ Nat.lcm x.2.length y.2.length := Nat.le_of_dvd (Nat.lcm_pos (len_pos n1) (len_pos n2)) l2
  refine ⟨w3, z, rfl, h3, by omega, by omega, fun w4 H4 s4 h4 => ?_⟩
  refine q w4 H4 _ (((s1.trans s2).trans s3).trans s4) h4 ⟨hg.1.neg, fun n => ?_⟩ ?_ ?_
  · show sq (neg z.1) (neg z.2) n = _
    rw [sq_neg hg.1.nc, hg.2 n]
    show (!(sq (neg x.1) (neg x.2) n && sq (neg y.1) (neg y.2) n)) = (sq x.1 x.2 n || sq y.1 y.2 n)
    rw [sq_neg n1, sq_neg n2]
    cases sq x.1 x.2 n <;> cases sq y.1 y.2 n <;> rfl
  · show (neg z.1).length ≤ _
    rw [neg_len]
    exact l1
  · show (neg z.2).length ∣ _
    rw [neg_len]
    exact l2
theorem ok_df {f fM fP : Addr} {fd fdM fdP : FuncData} (F : Fun K "difference" "difference" sDf f fd)
    (GM : FnOk P w K mg base CX0 4 fM fdM ["one", "other"] (spCm K fun a b => a && b)) (bM : Binds K fdM ["one", "other"] []) (kM : PySem.W.keepIn K (.ref fM) = true) (mM : mg "common" = some (.ref fM))
    (GP : FnOk P w K mg base CX0 1 fP fdP ["one"] (spCp K)) (bP : Binds K fdP ["one"] []) (kP : PySem.W.keepIn K (.ref fP) = true) (mP : mg "complement" = some (.ref fP)) :
    FnOk P w K mg base CX0 5 f fd ["one", "other"] (spCm K fun a b => a && !b) := by
  refine F.ok scDf (fun vs H Q E h => ?_) (fun cdv A outer s H vs Q E hr h => ?_)
  · obtain ⟨v1, v2, x, y, rfl, _⟩ := h
    rfl
  obtain ⟨v1, v2, x, y, rfl, hv1, hv2, n1, n2, hb, lb1, lb2, q⟩ := h
  have nd := scDf.nd
  have hmy : y.1.length ≤ hsz x y := Nat.le_max_right _ _
  refine ⟨_, pss_one (ps_ret (pe_call GM hr rfl mM kM bM .nil pass0 (pa_cons (pv 0) (pa_cons (pe_call GP (hr.mono (by decide)) rfl mP kP bP .nil pass0 (pa_cons (pv 1) pa_nil)) pa_nil)))), ?_⟩
  refine ⟨_, rfl, _, rfl, v2, y, rfl, hv2, by omega, by omega, fun w2 H2 s2 h2 => ?_⟩
  refine ⟨v1, w2, x, _, rfl, hv1.same s2, h2, n1, neg_ne n2, ?_, lb1, ?_, fun w3 H3 z s3 h3 hg l1 l2 => ?_⟩
  · rw [hsz_negr]
    show hsz x y + Nat.lcm x.2.length (neg y.2).length ≤ 900
    rw [neg_len]
    exact hb
  · show (neg y.2).length ≤ 900
    rw [neg_len]
    exact lb2
  rw [hsz_negr] at l1
  have l2 : z.2.length ∣ Nat.lcm x.2.length (neg y.2).length := l2
  rw [neg_len] at l2
  refine q w3 H3 z (s2.trans s3) h3 ⟨hg.1, fun n => ?_⟩ l1 l2
  rw [hg.2 n]
  show (sq x.1 x.2 n && sq (neg y.1) (neg y.2) n) = _
  rw [sq_neg n2]
end
end Mw

namespace Mw
open PySem L2
theorem kp_of {K : PySem.W.Frag} {mg : Str → Option Value} {nm : Str} {n h c : Addr} {b : Bool} {d : Option Addr} {k kh kc : Nat} {s sh sc : Array (Option Value)} (g : mg nm = some (.ref n)) (x : K.lookup n = some ⟨.type "tuple", d, .seq #[.ref h, .ref c] k, s⟩)
    (xh : K.lookup h = some ⟨.type "tuple", none, .seq #[] kh, sh⟩) (xc : K.lookup c = some ⟨.type "tuple", none, .seq #[.bool b] kc, sc⟩) : KP K mg nm ([], [b]) := by
  refine ⟨n, g, fun H => ⟨n, .ref h, .ref c, rfl, .inr ⟨_, _, _, x, rfl, rfl, by show 2 ≤ sizeLine; decide, .cons rfl (.cons rfl .nil)⟩, ⟨h, rfl, ?_⟩, ⟨c, rfl, ?_⟩⟩⟩
  · exact ⟨.inr ⟨_, _, _, xh, rfl, rfl, Nat.zero_le _, .nil⟩, .inr ⟨_, xh, rfl, rfl⟩⟩
  · exact ⟨.inr ⟨_, _, _, xc, rfl, rfl, by show 1 ≤ sizeLine; decide, .cons rfl .nil⟩, .inr ⟨_, xc, rfl, rfl⟩⟩
end Mw

namespace Mw
open PySem L2
/-! ### lists of the heap beside lists -/
def A2 {α : Type} (R : α → V → Prop) : List α → List V → Prop
  | [], vs => vs = []
  | x :: xs, vs => ∃ v ws, vs = v :: ws ∧ R x v ∧ A2 R xs ws
theorem A2.mono {α : Type} {R S : α → V → Prop} (h : ∀ x v, R x v → S x v) : ∀ {xs : List α} {vs : List V}, A2 R xs vs → A2 S xs vs
  | [], _, e => e
  | x :: xs, _, e => by
    obtain ⟨v, ws, rfl, h1, h2⟩ := e
    exact ⟨v, ws, rfl, h _ _ h1, A2.mono h h2⟩
theorem A2.length {α : Type} {R : α → V → Prop} : ∀ {xs : List α} {vs : List V}, A2 R xs vs → vs.length = xs.length
  | [], _, e => by rw [show _ = [] from e]; rfl
  | x :: xs, _, e => by
    obtain ⟨v, ws, rfl, _, h2⟩ := e
    exact congrArg (· + 1) h2.length
theorem A2.get {α : Type} {R : α → V → Prop} : ∀ {xs : List α} {vs : List V} {i : Nat} {v : V}, A2 R xs vs → vs[i]? = some v → ∃ x, xs[i]? = some x ∧ R x v
  | [], _, i, v, h, e => by
    rw [show _ = [] from h] at e
    simp at e
  | x :: xs, _, 0, v, h, e => by
    obtain ⟨y, ws, rfl, h1, h2⟩ := h
    have : y = v := by simpa using e
    subst this
    exact ⟨x, rfl, h1⟩
  | x :: xs, _, i + 1, v, h, e => by
    obtain ⟨y, ws, rfl, h1, h2⟩ := h
    obtain ⟨x', e1, e2⟩ := A2.get (i := i) h2 (by simpa using e)
    exact ⟨x', by simpa using e1, e2⟩
theorem A2.app {α : Type} {R : α → V → Prop} {ys : List α} {us : List V} (h' : A2 R ys us) : ∀ {xs : List α} {vs : List V}, A2 R xs vs → A2 R (xs ++ ys) (vs ++ us)
  | [], _, e => by rw [show _ = [] from e]; exact h'
  | x :: xs, _, e => by
    obtain ⟨v, ws, rfl, h1, h2⟩ := e
    exact ⟨v, ws ++ us, rfl, h1, A2.app h' h2⟩
theorem A2.one {α : Type} {R : α → V → Prop} {x : α} {v : V} (h : R x v) : A2 R [x] [v] := ⟨v, [], rfl, h, rfl⟩
theorem A2.snoc {α : Type} {R : α → V → Prop} {xs : List α} {vs : List V} {x : α} {v : V} (h' : A2 R xs vs) (h : R x v) : A2 R (xs ++ [x]) (vs ++ [v]) := A2.app (A2.one h) h'
/-- a list at v, its items beside xs -/
def Ls {α : Type} (R : Hp → α → V → Prop) (H : Hp) (xs : List α) (v : V) : Prop := ∃ r vs, v = .ref r ∧ H r = some (.lst vs) ∧ A2 (R H) xs vs ∧ vs.length < 100000
theorem Ls.same {α : Type} {R : Hp → α → V → Prop} (m : ∀ {H H' : Hp}, Same H H' → ∀ x v, R H x v → R H' x v) {H H' : Hp} (s : Same H H') {xs : List α} {v : V} (h : Ls R H xs v) : Ls R H' xs v := by
  obtain ⟨r, vs, e, h1, h2, h3⟩ := h
  exact ⟨r, vs, e, s _ _ h1, h2.mono (m s), h3⟩
abbrev Rg := Int × Int
abbrev Rel := Int × Bool × List Rg
def RgAt (H : Hp) (x : Rg) (v : V) : Prop := ∃ p, v = .ref p ∧ H p = some (.tup [.int x.1, .int x.2])
def RelAt (H : Hp) (x : Rel) (v : V) : Prop := ∃ p q, v = .ref p ∧ H p = some (.tup [.int x.1, .bl x.2.1, q]) ∧ Ls RgAt H x.2.2 q ∧ 0 ≤ x.1
theorem RgAt.same {H H' : Hp} (s : Same H H') (x : Rg) (v : V) (h : RgAt H x v) : RgAt H' x v := by
  obtain ⟨p, e, h1⟩ := h
  exact ⟨p, e, s _ _ h1⟩
theorem RelAt.same {H H' : Hp} (s : Same H H') (x : Rel) (v : V) (h : RelAt H x v) : RelAt H' x v := by
  obtain ⟨p, q, e, h1, h2, h3⟩ := h
  exact ⟨p, q, e, s _ _ h1, h2.same RgAt.same s, h3⟩
abbrev RowAt (H : Hp) (x : List Rel) (v : V) : Prop := Ls RelAt H x v
theorem RowAt.same {H H' : Hp} (s : Same H H') (x : List Rel) (v : V) (h : RowAt H x v) : RowAt H' x v := Ls.same RelAt.same s h
abbrev ConAt (H : Hp) (x : List (List Rel)) (v : V) : Prop := Ls RowAt H x v
theorem ConAt.same {H H' : Hp} (s : Same H H') (x : List (List Rel)) (v : V) (h : ConAt H x v) : ConAt H' x v := Ls.same RowAt.same s h
abbrev Rule := Str × List (List Rel)
def RuAt (H : Hp) (x : Rule) (v : V) : Prop := ∃ p q, v = .ref p ∧ H p = some (.tup [.str x.1, q]) ∧ ConAt H x.2 q
theorem RuAt.same {H H' : Hp} (s : Same H H') (x : Rule) (v : V) (h : RuAt H x v) : RuAt H' x v := by
  obtain ⟨p, q, e, h1, h2⟩ := h
  exact ⟨p, q, e, s _ _ h1, h2.same s⟩
abbrev RusAt (H : Hp) (x : List Rule) (v : V) : Prop := Ls RuAt H x v
theorem RusAt.same {H H' : Hp} (s : Same H H') (x : List Rule) (v : V) (h : RusAt H x v) : RusAt H' x v := Ls.same RuAt.same s h
/-! ### what the law's languages are -/
def RgOk (r : Rg) : Prop := 0 ≤ r.1 ∧ r.1 ≤ r.2 ∧ r.2 ≤ 20
def RelOk (x : Rel) : Prop := (x.1 = 0 ∨ (2 ≤ x.1 ∧ x.1 ≤ 100 ∧ x.1 ∣ 300)) ∧ x.2.2 ≠ [] ∧ x.2.2.length ≤ 3 ∧ ∀ r ∈ x.2.2, RgOk r
def ConOk (c : List (List Rel)) : Prop := c ≠ [] ∧ c.length ≤ 2 ∧ ∀ r ∈ c, r ≠ [] ∧ r.length ≤ 2 ∧ ∀ x ∈ r, RelOk x
def cats : List Str := ["zero", "one", "two", "few", "many"]
def LanOk (rs : List Rule) : Prop := (rs.map (·.1)).Sublist cats ∧ ∀ r ∈ rs, ConOk r.2
/-! ### what holds for a number -/
def rgB (n : Int) (r : Rg) : Bool := decide (r.1 ≤ n) && decide (n ≤ r.2)
def lookN (m n : Int) : Int := if m = 0 then n else n % m
def relB (n : Int) (x : Rel) : Bool := x.2.1 == x.2.2.any (rgB (lookN x.1 n))
def conB (n : Int) (c : List (List Rel)) : Bool := c.any fun row => row.all (relB n)
def catB (n : Int) : List Rule → Str
  | [] => "other"
  | r :: rs => if conB n r.2 then r.1 else catB n rs
def catN (rs : List Rule) (n : Int) : Str := if n < 0 then "other" else catB n rs
theorem take_map {α β : Type} {xs : List α} {i : Nat} {x : α} (g : α → β) (h : xs[i]? = some x) : (xs.take (i + 1)).map g = (xs.take i).map g ++ [g x] := by
  rw [List.take_succ, h, List.map_append]
  rfl
theorem get_lt {α : Type} {xs : List α} {i : Nat} {x : α} (h : xs[i]? = some x) : i < xs.length := (List.getElem?_eq_some_iff.mp h).1
end Mw

namespace Mw
open PySem L2
/-- what the row says of the class Language -/
structure LC (K : PySem.W.Frag) (C : Addr) : Prop where
  c : Cls K C
  nr : NoAttr K C "rules"
/-- a language at v -/
def LanAt (C : Addr) (H : Hp) (rs : List Rule) (v : V) : Prop := ∃ o dx q, v = .ref o ∧ H o = some (.ins C dx [("rules", q)]) ∧ RusAt H rs q
theorem LanAt.same {C : Addr} {H H' : Hp} (s : Same H H') {rs : List Rule} {v : V} (h : LanAt C H rs v) : LanAt C H' rs v := by
  obtain ⟨o, dx, q, e, h1, h2⟩ := h
  exact ⟨o, dx, q, e, s _ _ h1, h2.same s⟩
end Mw

namespace Mw
open PySem L2
/-! ### a heap without some addresses -/
def hids (L : List Addr) (H : Hp) : Hp := fun a => if a ∈ L then none else H a
theorem hids_ne {L : List Addr} {a : Addr} {H : Hp} (h : a ∉ L) : hids L H a = H a := by
  unfold hids
  rw [if_neg h]
theorem hids_in {L : List Addr} {a : Addr} {H : Hp} {o : HO} (h : hids L H a = some o) : a ∉ L ∧ H a = some o := by
  unfold hids at h
  split at h
  · cases h
  · exact ⟨by assumption, h⟩
theorem hids_same {L : List Addr} {H H1 : Hp} (s : Same H H1) : Same (hids L H) (hids L H1) := fun a o h => by
  obtain ⟨h1, h2⟩ := hids_in h
  rw [hids_ne h1]
  exact s _ _ h2
theorem hids_add {L : List Addr} {l : Addr} {H H1 : Hp} (hl : H l = none) (s : Same H H1) : Same (hids L H) (hids (l :: L) H1) := fun a o h => by
  obtain ⟨h1, h2⟩ := hids_in h
  have ne : a ≠ l := by rintro rfl; rw [hl] at h2; cases h2
  rw [hids_ne (by simp [ne, h1])]
  exact s _ _ h2
theorem hids_mut {L : List Addr} {l : Addr} {H : Hp} (hl : l ∈ L) (o : HO) : Same (hids L H) (hids L (upd H l o)) := fun a u h => by
  obtain ⟨h1, h2⟩ := hids_in h
  have ne : a ≠ l := by rintro rfl; exact h1 hl
  rw [hids_ne h1, upd_ne ne]
  exact h2
theorem hids_drop {L : List Addr} {l : Addr} {H : Hp} : Same (hids (l :: L) H) (hids L H) := fun a u h => by
  obtain ⟨h1, h2⟩ := hids_in h
  rw [hids_ne fun z => h1 (List.mem_cons_of_mem _ z)]
  exact h2
theorem hids_sub {L L' : List Addr} {H : Hp} (h : ∀ a ∈ L', a ∈ L) : Same (hids L H) (hids L' H) := fun a u e => by
  obtain ⟨h1, h2⟩ := hids_in e
  rw [hids_ne fun z => h1 (h a z)]
  exact h2
/-- all of L stand in H -/
def In (L : List Addr) (H : Hp) : Prop := ∀ b ∈ L, ∃ o, H b = some o
theorem In.same {L : List Addr} {H H' : Hp} (s : Same H H') (i : In L H) : In L H' := fun b hb => by
  obtain ⟨o, h⟩ := i b hb
  exact ⟨o, s _ _ h⟩
theorem In.new {L : List Addr} {H : Hp} {p : Addr} (i : In L H) (h : H p = none) : p ∉ L := fun hp => by
  obtain ⟨o, e⟩ := i p hp
  rw [h] at e
  cases e
theorem In.cons {L : List Addr} {H : Hp} {l : Addr} {o : HO} (i : In L H) (h : H l = some o) : In (l :: L) H := fun b hb => by
  rcases List.mem_cons.mp hb with rfl | hb
  · exact ⟨o, h⟩
  · exact i b hb
def rLo (K : PySem.W.Frag) : List V → Hp → VK → Prop := fun xs H Q => ∃ p ys, xs = [.ref p] ∧ (SqL K H p ys ∨ SqT K H p ys) ∧ ∀ l, H l = none → Q (.ref l) (upd H l (.lst ys))
section
variable {P : Program} {w : World} {K : PySem.W.Frag} {mg : Str → Option Value} {base : Heap} {C : Addr}
/-! ### copied -/
abbrev sCd : Stmt := top 9
abbrev nCd : List Str := ["condition", "row", "modulus", "inside", "ranges"]
theorem scCd : FnScope nCd ["condition"] (defScope sCd) := ⟨rfl, rfl, rfl, by decide +kernel, rfl, by decide +kernel, by decide +kernel⟩
def spCd : Sp := fun vs H Q _ => ∃ (v : V) (x : List (List Rel)) (L : List Addr), vs = [v] ∧ In L H ∧ ConAt (hids L H) x v ∧ ∀ v' H', Same H H' → ConAt (hids L H') x v' → Q v' H'
theorem ok_cd {f : Addr} {fd : FuncData} (F : Fun K "copied" "copied" sCd f fd) (ml : mg "list" = none) : FnOk P w K mg base CX0 1 f fd ["condition"] spCd := by
  refine F.ok scCd (fun vs H Q E h => ?_) (fun cdv A outer s H vs Q E hr h => ?_)
  · obtain ⟨v, x, L, rfl, _⟩ := h
    rfl
  obtain ⟨v, x, L, rfl, iL, ⟨r, cvs, rfl, hr1, ha, hl⟩, q⟩ := h
  have nd := scCd.nd
  refine ⟨_, pss_one (ps_ret (pe_lc (own := [("row", 1)]) (g := gName 1) (tt := tYes)
      (te := tLc (iList K (tVar 1)) (gTup K 3 (gCons (gName 2) (gCons (gName 3) (gCons (gName 4) gNil)))) tYes (tTup (tCons (tVar 2) (tCons (tVar 3) (tCons (tCB (rLo K) (tCons (tVar 4) tNil)) tNil)))) [2, 3, 4])
      rfl nd (pi_list (pv 0)) (blkOk_by (N := nCd) (sc := defScope sCd) (by decide +kernel)) (fun _ _ _ _ _ => pg_name (i := 1) nd rfl (.inl rfl)) (fun _ _ _ _ _ => pts_nil)
      (fun _ _ _ _ _ => by
        refine pe_lc (own := [("modulus", 2), ("inside", 3), ("ranges", 4)]) rfl nd (pi_list (pv 1)) ?_ (fun _ _ _ _ _ => ?_) (fun _ _ _ _ _ => pts_nil) (fun _ _ _ _ _ => ?_)
        · exact blkOk_by (N := nCd) (sc := { kind := .function, names := [(".0", .local), ("row", .local)], isGenerator := false, isCoroutine := false }) (by decide +kernel)
        · exact pg_tup rfl (pgs_cons (pg_name (i := 2) nd rfl (.inl rfl)) (pgs_cons (pg_name (i := 3) nd rfl (.inl rfl)) (pgs_cons (pg_name (i := 4) nd rfl (.inl rfl)) pgs_nil)))
        · exact pe_tup (pa_cons (pv 2) (pa_cons (pv 3) (pa_cons (pe_callTy call_list_of (by rfl) ml (by decide +kernel) (pa_cons (pv 4) pa_nil)) pa_nil)))))), ?_⟩
  have hr1' := (hids_in hr1).2
  refine ⟨_, rfl, r, rfl, ⟨_, SqL.of hr1'⟩, fun D hD => ?_⟩
  have s1 : Same H (upd H D (.lst [])) := same_new hD _
  have hlen := ha.length
  refine lc_list (xs := cvs) (fun j H' => ∃ vs, Same H H' ∧ H' D = some (.lst vs) ∧ A2 (RowAt (hids (D :: L) H')) (x.take j) vs) ⟨[], s1, upd_same, rfl⟩ (fun j H' _ ⟨_, s', _⟩ => SqL.of (s' _ _ hr1')) ?_ ?_
  · rintro j y H' hx ⟨vs, s', hD', ha'⟩
    obtain ⟨row, hz, rr, rvs, rfl, hrr, har, hlr⟩ := A2.get ha hx
    have hrr' := s' _ _ (hids_in hrr).2
    have hlt := get_lt hx
    have hlen2 := har.length
    have hvl := ha'.length
    rw [List.length_take] at hvl
    refine ⟨rfl, _, rfl, rr, rfl, ⟨_, SqL.of hrr'⟩, fun D2 hD2 => ?_⟩
    have s2 : Same H' (upd H' D2 (.lst [])) := same_new hD2 _
    have hne : D ≠ D2 := ne_of_none hD' hD2
    refine lc_list (xs := rvs) (fun k H2 => ∃ ws, Same H' H2 ∧ H2 D2 = some (.lst ws) ∧ A2 (RelAt (hids (D2 :: D :: L) H2)) (row.take k) ws) ⟨[], s2, upd_same, rfl⟩ (fun k H2 _ ⟨_, s3, _⟩ => SqL.of (s3 _ _ hrr')) ?_ ?_
    · rintro k y2 H2 hx2 ⟨ws, s3, hD22, ha2⟩
      obtain ⟨⟨m, ins, rs⟩, hz2, p, qv, rfl, hp, ⟨ra, gvs, rfl, hra, hag, hlg⟩, hm⟩ := A2.get har hx2
      have s02 := s'.trans s3
      have hlt2 := get_lt hx2
      have hwl := ha2.length
      rw [List.length_take] at hwl
      refine ⟨p, _, rfl, .inl (.inl (s02 _ _ (hids_in hp).2)), rfl, .int m, _, rfl, .bl ins, _, rfl, .ref ra, [], rfl, rfl, rfl, ?_⟩
      refine ⟨_, rfl, _, rfl, _, rfl, ra, gvs, rfl, .inl (SqL.of (s02 _ _ (hids_in hra).2)), fun l hl => ⟨by show 3 ≤ sizeLine; decide, fun t ht => ?_⟩⟩
      have e1 : Same H2 (upd H2 l (.lst gvs)) := same_new hl _
      have e2 : Same (upd H2 l (.lst gvs)) (upd (upd H2 l (.lst gvs)) t (.tup [.int m, .bl ins, .ref l])) := same_new ht _
      have s4 := s3.trans (e1.trans e2)
      have hl2 : l ≠ D2 := (ne_of_none hD22 hl).symm
      have ht2 : t ≠ D2 := (ne_of_none (e1 _ _ hD22) ht).symm
      have i2 : In (D2 :: D :: L) H2 := ((iL.same s02).cons (s3 _ _ hD')).cons hD22
      have nl := i2.new hl
      have nt := (i2.same e1).new ht
      refine ⟨ws, (e1.trans e2) _ _ hD22, sz_line (by omega), ws ++ [.ref t], same_mut s4 hD2 _, upd_same, ?_⟩
      rw [List.take_succ, hz2]
      refine A2.snoc (ha2.mono fun x v h => RelAt.same ((hids_same (e1.trans e2)).trans (hids_mut (List.mem_cons_self) _)) x v h) ?_
      refine ⟨t, .ref l, rfl, by rw [hids_ne nt, upd_ne ht2]; exact upd_same, ⟨l, gvs, rfl, ?_, ?_, hlg⟩, hm⟩
      · rw [hids_ne nl, upd_ne hl2]
        exact e2 _ _ upd_same
      · refine hag.mono fun x v h => RgAt.same ?_ x v h
        have z1 : Same (hids L H) (hids (D :: L) H') := hids_add hD s'
        have z2 : Same (hids (D :: L) H') (hids (D2 :: D :: L) (upd (upd H2 l (.lst gvs)) t (.tup [.int m, .bl ins, .ref l]))) := hids_add hD2 s4
        exact (z1.trans z2).trans (hids_mut List.mem_cons_self _)
    · rintro H2 ⟨ws, s3, hD22, ha2⟩
      rw [show row.take rvs.length = row by rw [hlen2, List.take_length]] at ha2
      have hD3 := s3 _ _ hD'
      refine ⟨vs, hD3, sz_line (by omega), vs ++ [.ref D2], same_mut (s'.trans s3) hD _, upd_same, ?_⟩
      rw [List.take_succ, hz]
      have nD2 : D2 ∉ (D :: L) := ((iL.same s').cons hD').new hD2
      refine A2.snoc (ha'.mono fun x v h => RowAt.same ((hids_same s3).trans (hids_mut List.mem_cons_self _)) x v h) ⟨D2, ws, rfl, by rw [hids_ne nD2, upd_ne hne.symm]; exact hD22, ha2.mono fun x v h => RelAt.same (hids_drop.trans (hids_mut List.mem_cons_self _)) x v h, ?_⟩
      have := ha2.length
      omega
  · rintro H' ⟨vs, s', hD', ha'⟩
    rw [show x.take cvs.length = x by rw [hlen, List.take_length]] at ha'
    have nD : D ∉ L := iL.new hD
    refine q (.ref D) H' s' ⟨D, vs, rfl, by rw [hids_ne nD]; exact hD', ha'.mono fun x v h => RowAt.same hids_drop x v h, ?_⟩
    have := ha'.length
    omega
end
end Mw

namespace Mw
open PySem L2
def mth (s : Stmt) (i : Nat) : Stmt := match s with
  | .ClassDef _ _ _ b _ _ _ _ _ _ _ => b.getD i (.Pass ⟨0, 0, 0, 0⟩)
  | s => s
section
variable {P : Program} {w : World} {K : PySem.W.Frag} {mg : Str → Option Value} {base : Heap} {C : Addr}
/-! ### Language.__init__ -/
abbrev sLi : Stmt := mth (top 8) 0
abbrev nLi : List Str := ["self", "rules", "category", "condition"]
theorem scLi : FnScope nLi ["self", "rules"] (defScope sLi) := ⟨rfl, rfl, rfl, by decide +kernel, rfl, by decide +kernel, by decide +kernel⟩
def spLi (C : Addr) : Sp := fun vs H Q _ => ∃ (o dx : Addr) (v : V) (x : List Rule) (L : List Addr), vs = [.ref o, v] ∧ H o = some (.ins C dx []) ∧ In L H ∧ RusAt (hids (o :: L) H) x v ∧
  ∀ q H', (∀ a u, H a = some u → a ≠ o → H' a = some u) → H' o = some (.ins C dx [("rules", q)]) → RusAt (hids (o :: L) H') x q → Q .non H'
theorem ok_li {f fR : Addr} {fd fdR : FuncData} (F : Fun K "__init__" "Language.__init__" sLi f fd) (Lc : LC K C)
    (GR : FnOk P w K mg base CX0 1 fR fdR ["condition"] spCd) (bR : Binds K fdR ["condition"] []) (kR : PySem.W.keepIn K (.ref fR) = true) (mR : mg "copied" = some (.ref fR)) :
    FnOk P w K mg base CX0 2 f fd ["self", "rules"] (spLi C) := by
  refine F.ok scLi (fun vs H Q E h => ?_) (fun cdv A outer s H vs Q E hr h => ?_)
  · obtain ⟨o, dx, v, x, L, rfl, _⟩ := h
    rfl
  obtain ⟨o, dx, v, x, L, rfl, ho, iL, ⟨r, rvs, rfl, hr1, ha, hl⟩, q⟩ := h
  have nd := scLi.nd
  refine ⟨_, pss_one (ps_fld (pv 0) (pe_lc (own := [("category", 2), ("condition", 3)]) (g := gTup K 2 (gCons (gName 2) (gCons (gName 3) gNil))) (tt := tYes)
      (te := tTup (tCons (tVar 2) (tCons (tCall spCd [] E0 (tCons (tVar 3) tNil)) tNil))) rfl nd (pi_list (pv 1)) (blkOk_by (N := nLi) (sc := defScope sLi) (by decide +kernel))
      (fun _ _ _ _ _ => pg_tup rfl (pgs_cons (pg_name (i := 2) nd rfl (.inl rfl)) (pgs_cons (pg_name (i := 3) nd rfl (.inl rfl)) pgs_nil))) (fun _ _ _ _ _ => pts_nil)
      (fun _ _ _ _ _ => pe_tup (pa_cons (pv 2) (pa_cons (pe_call GR hr rfl mR kR bR .nil pass0 (pa_cons (pv 3) pa_nil)) pa_nil)))) rfl), ?_⟩
  have hr1' := (hids_in hr1).2
  have iO : In (o :: L) H := iL.cons ho
  refine ⟨_, rfl, r, rfl, ⟨_, SqL.of hr1'⟩, fun D hD => ?_⟩
  have s1 : Same H (upd H D (.lst [])) := same_new hD _
  have hlen := ha.length
  refine lc_list (xs := rvs) (fun j H' => ∃ vs, Same H H' ∧ H' D = some (.lst vs) ∧ A2 (RuAt (hids (D :: o :: L) H')) (x.take j) vs) ⟨[], s1, upd_same, rfl⟩ (fun j H' _ ⟨_, s', _⟩ => SqL.of (s' _ _ hr1')) ?_ ?_
  · rintro j y H' hx ⟨vs, s', hD', ha'⟩
    obtain ⟨⟨c, z⟩, hz, p, cv, rfl, hp, hcon⟩ := A2.get ha hx
    have hlt := get_lt hx
    have hvl := ha'.length
    rw [List.length_take] at hvl
    have iD : In (D :: o :: L) H' := (iO.same s').cons hD'
    refine ⟨p, _, rfl, .inl (.inl (s' _ _ (hids_in hp).2)), rfl, .str c, _, rfl, cv, [], rfl, rfl, rfl, ?_⟩
    refine ⟨_, rfl, _, rfl, cv, z, D :: o :: L, rfl, iD, hcon.same (hids_add hD s'), fun v' H2 s2 hv' => ⟨by show 2 ≤ sizeLine; decide, fun t ht => ?_⟩⟩
    have e2 : Same H2 (upd H2 t (.tup [.str c, v'])) := same_new ht _
    have hD2 := s2 _ _ hD'
    have nt := (iD.same s2).new ht
    have tD : t ≠ D := fun e => nt (by rw [e]; exact List.mem_cons_self)
    refine ⟨vs, e2 _ _ hD2, sz_line (by omega), vs ++ [.ref t], same_mut ((s'.trans s2).trans e2) hD _, upd_same, ?_⟩
    rw [List.take_succ, hz]
    refine A2.snoc (ha'.mono fun x v h => RuAt.same ((hids_same (s2.trans e2)).trans (hids_mut List.mem_cons_self _)) x v h) ⟨t, v', rfl, by rw [hids_ne nt, upd_ne tD]; exact upd_same, hv'.same ((hids_same e2).trans (hids_mut List.mem_cons_self _))⟩
  · rintro H' ⟨vs, s', hD', ha'⟩
    rw [show x.take rvs.length = x by rw [hlen, List.take_length]] at ha'
    have nD : D ∉ (o :: L) := iO.new hD
    have Do : D ≠ o := fun e => nD (by rw [e]; exact List.mem_cons_self)
    refine ⟨_, rfl, o, C, dx, _, rfl, s' _ _ ho, Lc.c, Lc.nr, by show 0 < 1000; decide, ?_⟩
    refine q (.ref D) _ (fun a u h ne => by rw [upd_ne ne]; exact s' _ _ h) upd_same ⟨D, vs, rfl, by rw [hids_ne nD, upd_ne Do]; exact hD', ha'.mono fun x v h => RuAt.same (hids_drop.trans (hids_mut List.mem_cons_self _)) x v h, ?_⟩
    have := ha'.length
    omega
end
end Mw

namespace Sla
open PySem L2 PySem.Spec PyProof.Rows
section
variable {X : Cx}
/-- max(xs), xs a list of ints that is not empty -/
def rMaxL (K : PySem.W.Frag) : List V → Hp → VK → Prop := fun vs H Q => ∃ (p : Addr) (ns : List Int), vs = [.ref p] ∧ SqL K H p (ns.map V.int) ∧ ns ≠ [] ∧ ∀ M, M ∈ ns → (∀ a ∈ ns, a ≤ M) → Q (.int M) H
theorem call_maxL (hc : X.calm = true) : CallR X (.builtin "max") (rMaxL X.K) := by
  intro pins s σ H vs us Q I r h
  obtain ⟨p, ns, rfl, hs, hne, q⟩ := h
  obtain ⟨its, rv, hl, _⟩ := I.list hs
  rw [Vals.ref1 r]
  have hi := Vals.ints rv
  have hl' : s.heap.IsList p its.toArray := hl.isList
  obtain ⟨xs, e⟩ := hi.allInts.items
  have hns : ns = xs.toList.map (·.1) := by
    rw [← hi.numsOf, ← nums_intItems, ← e]
  have hsz : 0 < xs.size := by
    have h3 := List.length_pos_iff.mpr hne
    rw [hns, List.length_map, Array.length_toList] at h3
    exact h3
  rw [e] at hl'
  refine max_intList (I.ok.hd hc) hl' hsz fun v h' tk hv k => ?_
  obtain ⟨t, rfl⟩ := intItems_at hv
  obtain ⟨h1, h2⟩ := argBest_gt (numAt xs) (xs.size - 1)
  refine ⟨.int _, H, I.kept k, ⟨t, rfl⟩, q _ ?_ fun a ha => ?_⟩
  · rw [hns, numAt_eq]
    exact PySem.getD_mem (by rw [List.length_map, Array.length_toList]; omega)
  · rw [hns] at ha
    obtain ⟨j, hj, rfl⟩ := PySem.mem_getD ha
    rw [List.length_map, Array.length_toList] at hj
    rw [← numAt_eq]
    exact h2 j (by omega)
end
section
variable {prog : Program} {w : World} {A : Around} {E : Value → Shared → Prop} {s : Shared}
/-- a list's items from lo to hi are set to another list's, wherever lo and hi lie -/
theorem setSl {l b sl : Addr} {items new : Array Value} {n n2 a c : Nat} {vl vu : Value} {lo hi : Option Int} {Q : Unit → Shared → Prop}
    (e : s.heap.get? l = some { cls := .type "list", data := .seq items n }) (e2 : s.heap.get? b = some { cls := .type "list", data := .seq new n2 }) (hne : l ≠ b)
    (hs : s.heap.IsSliceOf sl vl vu .none) (pl : IsPart vl lo) (pu : IsPart vu hi) (ea : HT.sIx items.size 0 lo = a) (ec : max a (HT.sIx items.size items.size hi) = c) (hc : c ≤ items.size)
    (hsz : items.size + new.size ≤ sizeLine) (h : Q () { s with heap := s.heap.update l (Obj.mapSeq fun xs => xs.extract 0 a ++ new ++ xs.extract c xs.size) }) :
    wpAny (model prog w) A (setItem (.ref l) (.ref sl) (.ref b)) Q E s := by
  have hl : s.heap.IsList l items := PySem.IsL.isList e
  have hb : s.heap.IsList b new := PySem.IsL.isList e2
  obtain ⟨os, hos, hcs, hds⟩ := id hs
  have hTs : s.TypeIs (.ref sl) "slice" := ⟨os, hos, hcs⟩
  have hsame : Builtin.List.listSameRef (.ref l) (.ref b) = false := by
    unfold Builtin.List.listSameRef
    exact beq_eq_false_iff_ne.mpr hne
  obtain ⟨b1, b2, b3⟩ := slice_bounds lo hi items.size
  have hbd : sliceBounds lo hi none items.size = ((a : Int), ((HT.sIx items.size items.size hi : Nat) : Int), 1) := by
    rw [← ea]
    exact Prod.ext b1 (Prod.ext b2 b3)
  have hmax : (max (a : Int) ((HT.sIx items.size items.size hi : Nat) : Int)).toNat = c := by omega
  have hac : a ≤ c := by omega
  have hz' : ((fun xs : Array Value => xs.extract 0 a ++ new ++ xs.extract c xs.size) items).size ≤ sizeLine + 1 := by
    simp only [Array.size_append, Array.size_extract]
    omega
  unfold setItem
  try with_reducible refine wpAny_holding ?_
  first | refine wpAny_bind (wpAny_pure ?_) | skip
  refine wpAny_bind (wpAny_sequenceKey hl.typeIs (by decide) ?_)
  refine wpAny_bind (wpAny_callSpecial?_slot (name := Str.ofString "__setitem__") hl.typeIs slot_list_setitem
    (wpAny_call_entry slot_list_setitem hl.typeIs entry_list_setitem ?_ (args_list_setitem _ _ _)))
  show wpAny _ _ (Builtin.List.listSubscript? (.ref sl) >>= _) _ _ s
  refine wpAny_bind ?_
  unfold Builtin.List.listSubscript?
  refine wpAny_bind (wpAny_specialOf hTs slice_no_index ?_)
  simp only [Option.isNone_none, if_true]
  refine wpAny_pure ?_
  show wpAny _ _ (typeOf (.ref sl) >>= _) _ _ s
  refine wpAny_bind (wpAny_typeOf hTs ?_)
  first
    | rw [if_neg (by decide)]
    | refine PySem.W.KFB.if_not (by decide) ?_
  rw [listSliceParts_eq]
  have hstep : ¬ ((rawPart none == rawInt 0) = true) := Bool.false_ne_true
  refine wpAny_bind (wpAny_bind (wpAny_field hos hds (x := .none) rfl (wpAny_bind (wpAny_listPart .none ?_))))
  rw [if_neg hstep]
  refine wpAny_bind (wpAny_field hos hds (x := vl) rfl (wpAny_bind (wpAny_listPart pl ?_)))
  refine wpAny_bind (wpAny_field hos hds (x := vu) rfl (wpAny_bind (wpAny_listPart pu (wpAny_pure ?_))))
  first
    | simp only [hsame, Bool.false_eq_true, if_false]
    | refine PySem.W.KFB.if_not hsame ?_
    | (dsimp only
       rw [if_neg (by rw [hsame]; exact Bool.false_ne_true)])
  refine wpAny_bind (m := Builtin.List.listAllItems (.ref b) "must assign iterable to extended slice") ?_
  unfold Builtin.List.listAllItems
  refine wpAny_bind (wpAny_typeOf hb.typeIs ?_)
  first
    | refine PySem.W.KFB.if_so (by decide) ?_
    | rw [if_pos (by decide)]
    | simp only [beq_self_eq_true, Bool.true_or, if_true]
  unfold Builtin.List.listItems
  refine wpAny_bind (wpAny_seqItems e2 rfl (wpAny_pure ?_))
  refine wpAny_bind (wpAny_bind (wpAny_seqItems e rfl (wpAny_pure ?_)))
  refine wpAny_bind (wpAny_of_eq ((sliceIndices_raw lo hi none items.size (by simp)).trans (congrArg (pure : Int × Int × Int → Sem (Int × Int × Int)) hbd)) ?_)
  show wpAny _ _ (if ((1 : Int) == 1) = true then _ else _) _ _ s
  rw [if_pos (by decide)]
  refine wpAny_bind (wpAny_rule ?_)
  first
    | simp only [notLongL hsz, Bool.false_eq_true, if_false]
    | refine PySem.W.KFB.if_not (notLongL hsz) ?_
  first | refine wpAny_bind (wpAny_pure ?_) | skip
  show wpAny _ _ (updateSeq l (fun xs => xs.extract 0 ((a : Int)).toNat ++ new ++ xs.extract (max (a : Int) ((HT.sIx items.size items.size hi : Nat) : Int)).toNat xs.size) >>= _) _ _ s
  rw [hmax, Int.toNat_natCast]
  refine wpAny_bind (wpAny_updateSeq (hz := Nat.le_trans (Nat.le_add_right _ _) hsz) (_hz' := hz') e rfl ?_)
  refine wpAny_bind (wpAny_letGo ?_)
  first
    | exact wpAny_bind (wpAny_pure (wpAny_pure ⟨.none, rfl, wpAny_pure h⟩))
    | exact wpAny_pure ⟨.none, rfl, wpAny_pure h⟩
end
section
variable {X : Cx} {o : Expr} {lo hi : Option Expr} {p2 pos : Pos} {to : TE} {tl th : TO}
def putS (xs ys : List V) (a c : Option Int) : List V := xs.take (HT.sIx xs.length 0 a) ++ ys ++ xs.drop (max (HT.sIx xs.length 0 a) (HT.sIx xs.length xs.length c))
/-- o[lo:hi] = a list -/
def gSl (to : TE) (tl th : TO) : TG := fun v σ H Q => to σ H fun x H1 => tl σ H1 fun a H2 => th σ H2 fun c H3 => ∃ (l b : Addr) (xs ys : List V), x = .ref l ∧ v = .ref b ∧ H3 l = some (.lst xs) ∧ H3 b = some (.lst ys) ∧ l ≠ b ∧ xs.length + ys.length ≤ sizeLine ∧
  Q σ (upd H3 l (.lst (putS xs ys a c)))
theorem pg_slice (ho : PE X o to) (hl : PO X lo tl) (hu : PO X hi th)
    (ha : ∀ v, assign (.Subscript o (.Slice lo hi none p2) pos) X.env v = (do
      let ov ← holding [v] (eval o X.env)
      let iv ← holding [v, ov] (eval (.Slice lo hi none p2) X.env)
      standAt pos
      holding [v, ov, iv] (setItem ov iv v)
      release [iv, v, ov] []) := by intro _; rfl) : PG X (.Subscript o (.Slice lo hi none p2) pos) (gSl to tl th) := by
  refine ⟨fun pins s σ H v u Q I r h => ?_⟩
  rw [ha]
  refine wpAny_bind (wpAny_holding (thn (ho.run pins s σ H _ I h) fun ov s1 ⟨x, H1, I1, r1, q1⟩ => ?_))
  refine wpAny_bind (wpAny_holding (wpAny_Slice (thn (hl.run pins s1 σ H1 _ I1 q1) fun vl s2 ⟨a, H2, I2, pl, q2⟩ => thn (hu.run pins s2 σ H2 _ I2 q2) fun vu s3 ⟨c, H3, I3, pu, q3⟩ => ?_)))
  rw [evalPart_none]
  refine wpAny_pure ?_
  obtain ⟨l, b, xs, ys, rfl, rfl, hlx, hby, hne, hz, q⟩ := q3
  cases r1
  cases r
  have I4 : Inv X pins σ H3 { s3 with heap := s3.heap.push { cls := .type "slice", data := .fields #[vl, vu, .none] } } := I3.kept (t' := s3.toks) fun b ob q => Heap.get?_push_of_some _ q
  refine wpAny_bind (wpAny_standAt (wpAny_bind (wpAny_holding ?_)))
  obtain ⟨z, its, n, r, hlen, e⟩ := I4.lstM hlx
  obtain ⟨z2, its2, n2, r2, hlen2, e2⟩ := I4.lstM hby
  have s0 : HT.sIx xs.length 0 a ≤ xs.length := HT.sIx_le _ _ (Nat.zero_le _) _
  have s1 : HT.sIx xs.length xs.length c ≤ xs.length := HT.sIx_le _ _ (Nat.le_refl _) _
  refine setSl (a := HT.sIx xs.length 0 a) (c := max (HT.sIx xs.length 0 a) (HT.sIx xs.length xs.length c)) e e2 hne (Heap.IsSliceOf.new ..) pl pu (by rw [List.size_toArray, hlen]) (by rw [List.size_toArray, hlen]) (by rw [List.size_toArray, ← hlen]; omega) (by rw [List.size_toArray, List.size_toArray]; omega) ?_
  refine wpAny_release ⟨σ, _, I4.lset (its' := its.take (HT.sIx xs.length 0 a) ++ its2 ++ its.drop (max (HT.sIx xs.length 0 a) (HT.sIx xs.length xs.length c))) (t' := s3.toks) hlx e ?_ (Vals.append (Vals.append (r.take _) r2) (r.drop _)) ?_, q⟩
  · exact splice_eq its its2 _ _
  · rw [List.length_append, List.length_append, List.length_take, List.length_drop]
    omega
end
end Sla

namespace Mw
open PySem L2
/-! ### sets as numbers are in them, with bounds -/
def Sd (z : BL × BL) (f : Nat → Bool) : Prop := Gs z f ∧ z.1.length ≤ 21 ∧ z.2.length ∣ 300
/-- v is a set of the numbers of which f is true -/
def Sa (K : PySem.W.Frag) (H : Hp) (v : V) (f : Nat → Bool) : Prop := ∃ z, PA K H v z ∧ Sd z f
theorem Sa.same {K : PySem.W.Frag} {H H' : Hp} {v : V} {f : Nat → Bool} (s : Same H H') (h : Sa K H v f) : Sa K H' v f := by
  obtain ⟨z, h1, h2⟩ := h
  exact ⟨z, h1.same s, h2⟩
theorem Sd.ne {z : BL × BL} {f : Nat → Bool} (h : Sd z f) : z.2 ≠ [] := h.1.1.nc
theorem Sd.le {z : BL × BL} {f : Nat → Bool} (h : Sd z f) : z.2.length ≤ 300 := Nat.le_of_dvd (by decide) h.2.2
theorem Sd.lcm {x y : BL × BL} {f g : Nat → Bool} (h : Sd x f) (h' : Sd y g) : Nat.lcm x.2.length y.2.length ∣ 300 := Nat.lcm_dvd h.2.2 h'.2.2
/-- what the making of one set out of two asks for -/
theorem Sd.two {x y : BL × BL} {f g : Nat → Bool} (h : Sd x f) (h' : Sd y g) : hsz x y + Nat.lcm x.2.length y.2.length ≤ 900 ∧ x.2.length ≤ 900 ∧ y.2.length ≤ 900 := by
  have h1 : Nat.lcm x.2.length y.2.length ≤ 300 := Nat.le_of_dvd (by decide) (h.lcm h')
  have h2 : hsz x y ≤ 21 := Nat.max_le.mpr ⟨h.2.1, h'.2.1⟩
  have h3 := h.le
  have h4 := h'.le
  omega
/-! ### the marks -/
def mkL (n : Nat) (ins : Bool) (rs : List Rg) : BL := (List.range n).map fun (k : Nat) => if rs.any (rgB (k : Int)) = true then ins else !ins
theorem mkL_len (n : Nat) (ins : Bool) (rs : List Rg) : (mkL n ins rs).length = n := by simp [mkL]
theorem mkL_get {n k : Nat} {ins : Bool} {rs : List Rg} (h : k < n) : (mkL n ins rs).getD k false = if rs.any (rgB (k : Int)) = true then ins else !ins := getD_map_range h
theorem mkL_nil (n : Nat) (ins : Bool) : mkL n ins [] = List.replicate n (!ins) := by
  refine List.ext_getElem (by rw [mkL_len, List.length_replicate]) fun k h1 h2 => ?_
  simp [mkL]
theorem mkL_step {n a c : Nat} {ins : Bool} {rs : List Rg} {r : Rg} (hac : a ≤ c) (hc : c ≤ n) (h : ∀ k, k < n → (rgB (k : Int) r = true ↔ a ≤ k ∧ k < c)) :
    (mkL n ins rs).take a ++ List.replicate (c - a) ins ++ (mkL n ins rs).drop c = mkL n ins (rs ++ [r]) := by
  have hl := mkL_len n ins rs
  refine List.ext_getElem (by rw [List.length_append, List.length_append, List.length_take, List.length_drop, List.length_replicate, hl, mkL_len]; omega) fun k h1 h2 => ?_
  rw [mkL_len] at h2
  have e2 : (mkL n ins (rs ++ [r]))[k] = if (rs ++ [r]).any (rgB (k : Int)) = true then ins else !ins := by simp only [mkL, List.getElem_map, List.getElem_range]
  have e1 : ∀ h : k < (mkL n ins rs).length, (mkL n ins rs)[k] = if rs.any (rgB (k : Int)) = true then ins else !ins := fun h => by simp only [mkL, List.getElem_map, List.getElem_range]
  have ea : (rs ++ [r]).any (rgB (k : Int)) = (rs.any (rgB (k : Int)) || rgB (k : Int) r) := by simp [List.any_append]
  rw [e2, ea]
  by_cases z1 : k < a
  · rw [List.getElem_append_left (by rw [List.length_append, List.length_take, List.length_replicate]; omega), List.getElem_append_left (by rw [List.length_take]; omega), List.getElem_take, e1 (by omega)]
    have : rgB (k : Int) r = false := Bool.eq_false_iff.mpr fun z => by
      have := (h k h2).mp z
      omega
    rw [this, Bool.or_false]
  · by_cases z2 : k < c
    · rw [List.getElem_append_left (by rw [List.length_append, List.length_take, List.length_replicate]; omega), List.getElem_append_right (by rw [List.length_take]; omega), List.getElem_replicate, (h k h2).mpr ⟨by omega, z2⟩, Bool.or_true, if_pos rfl]
    · have hL : ((mkL n ins rs).take a ++ List.replicate (c - a) ins).length = c := by
        rw [List.length_append, List.length_take, List.length_replicate]
        omega
      rw [List.getElem_append_right (by omega), List.getElem_drop]
      have : rgB (k : Int) r = false := Bool.eq_false_iff.mpr fun z => by
        have := (h k h2).mp z
        omega
      rw [this, Bool.or_false, ← e1 (by omega)]
      congr 1
      omega
theorem mk_put {n : Nat} {ins : Bool} {rs : List Rg} {lo hi : Int} {sp : Int} (h0 : 0 ≤ lo) (h1 : lo ≤ hi) (hs : sp = min (hi + 1) (n : Int)) :
    Sla.putS ((mkL n ins rs).map V.bl) ((List.replicate (sp - lo).toNat ins).map V.bl) (some lo) (some sp) = (mkL n ins (rs ++ [(lo, hi)])).map V.bl := by
  have hl := mkL_len n ins rs
  obtain ⟨l, rfl⟩ := Int.eq_ofNat_of_zero_le h0
  obtain ⟨p, rfl⟩ := Int.eq_ofNat_of_zero_le (show 0 ≤ sp by omega)
  unfold Sla.putS
  rw [List.length_map, hl, HT.sIx_nat, HT.sIx_nat, ← List.map_take, ← List.map_drop, ← List.map_append, ← List.map_append]
  congr 1
  have e : (((p : Nat) : Int) - ((l : Nat) : Int)).toNat = max (min l n) (min p n) - min l n := by omega
  rw [e]
  refine mkL_step (by omega) (by omega) fun k hk => ?_
  unfold rgB
  rw [Bool.and_eq_true, decide_eq_true_eq, decide_eq_true_eq]
  show ((l : Nat) : Int) ≤ (k : Int) ∧ (k : Int) ≤ hi ↔ _
  omega
theorem rel_of {m : Int} {ins b : Bool} {rs : List Rg} {n : Int} (h : rs.any (rgB (lookN m n)) = b) : relB n (m, ins, rs) = if b = true then ins else !ins := by
  show (ins == rs.any (rgB (lookN m n))) = _
  rw [h]
  cases ins <;> cases b <;> rfl
/-- with a modulus: the marks are the cycle -/
theorem rel_cyc {m : Nat} {ins : Bool} {rs : List Rg} (hm : 2 ≤ m) (n : Nat) : sq [] (mkL m ins rs) n = relB (n : Int) ((m : Int), ins, rs) := by
  have hlt : n % m < m := Nat.mod_lt n (by omega)
  rw [sq_hi (Nat.zero_le _)]
  unfold cv
  have e : (((n : Int) - (([] : BL).length : Int)) % ((mkL m ins rs).length : Int)).toNat = n % m := by
    rw [mkL_len]
    show (((n : Int) - 0) % (m : Int)).toNat = n % m
    rw [Int.sub_zero, ← Int.natCast_emod, Int.toNat_natCast]
  rw [e, mkL_get hlt, rel_of (b := rs.any (rgB ((n % m : Nat) : Int)))]
  unfold lookN
  rw [if_neg (by omega), Int.natCast_emod]
/-- without: they are the head -/
theorem rel_head {k : Nat} {ins : Bool} {rs : List Rg} (hk : ∀ r ∈ rs, r.2 + 1 ≤ (k : Int)) (n : Nat) : sq (mkL k ins rs) [!ins] n = relB (n : Int) (0, ins, rs) := by
  rw [rel_of (m := 0) (n := (n : Int)) (b := rs.any (rgB (n : Int))) (by unfold lookN; rw [if_pos rfl])]
  by_cases h : n < k
  · rw [sq_lo (by rw [mkL_len]; exact h), mkL_get h]
  · have h2 : rs.any (rgB (n : Int)) = false := by
      rw [List.any_eq_false]
      intro r hr z
      unfold rgB at z
      rw [Bool.and_eq_true, decide_eq_true_eq, decide_eq_true_eq] at z
      have := hk r hr
      omega
    rw [h2, sq_hi (by rw [mkL_len]; omega)]
    unfold cv
    have e : (((n : Int) - ((mkL k ins rs).length : Int)) % (([!ins] : BL).length : Int)).toNat = 0 := by
      show (((n : Int) - ((mkL k ins rs).length : Int)) % 1).toNat = 0
      rw [Int.emod_one]
      rfl
    rw [e]
    rfl
theorem rep_bl (n : Nat) (b : Bool) : (List.replicate n [V.bl b]).flatten = (List.replicate n b).map V.bl := by
  induction n with
  | zero => rfl
  | succ n ih => rw [List.replicate_succ, List.flatten_cons, ih, List.replicate_succ]; rfl
section
variable {P : Program} {w : World} {K : PySem.W.Frag} {mg : Str → Option Value} {base : Heap}
/-! ### relation_set -/
abbrev sRe : Stmt := top 25
abbrev nRe : List Str := ["relation", "modulus", "inside", "ranges", "_", "high", "size", "marks", "low", "stop"]
theorem scRe : FnScope nRe ["relation"] (defScope sRe) := ⟨rfl, rfl, rfl, by decide +kernel, rfl, by decide +kernel, by decide +kernel⟩
def spRe (K : PySem.W.Frag) : Sp := fun vs H Q _ => ∃ (v : V) (x : Rel), vs = [v] ∧ RelAt H x v ∧ RelOk x ∧ ∀ v' H', Same H H' → Sa K H' v' (fun n => relB (n : Int) x) → Q v' H'
theorem ok_re {f fS : Addr} {fd fdS : FuncData} (F : Fun K "relation_set" "relation_set" sRe f fd)
    (GS : FnOk P w K mg base CX0 3 fS fdS ["head", "cycle"] (spSe K)) (bS : Binds K fdS ["head", "cycle"] []) (kS : PySem.W.keepIn K (.ref fS) = true) (mS : mg "settled" = some (.ref fS))
    (mx : mg "max" = none) (mn : mg "min" = none) :
    FnOk P w K mg base CX0 4 f fd ["relation"] (spRe K) := by
  refine F.ok scRe (fun vs H Q E h => ?_) (fun cdv A outer s H vs Q E hr h => ?_)
  · obtain ⟨v, x, rfl, _⟩ := h
    rfl
  obtain ⟨v, ⟨m, ins, rs⟩, rfl, ⟨p, qv, rfl, hp, ⟨ra, gvs, rfl, hra, hag, hlg⟩, hm0⟩, ⟨hm, hne, hl3, hrg⟩, q⟩ := h
  have hm0 : 0 ≤ m := hm0
  have hm : m = 0 ∨ (2 ≤ m ∧ m ≤ 100 ∧ m ∣ 300) := hm
  have hne : rs ≠ [] := hne
  have hrg : ∀ r ∈ rs, RgOk r := hrg
  have hl3 : rs.length ≤ 3 := hl3
  have hgl : gvs.length = rs.length := hag.length
  have nd := scRe.nd
  refine ⟨_, pss_cons (ps_asg (pv 0) (pg_tup rfl (pgs_cons (pg_name (i := 1) nd rfl (.inl rfl)) (pgs_cons (pg_name (i := 2) nd rfl (.inl rfl)) (pgs_cons (pg_name (i := 3) nd rfl (.inl rfl)) pgs_nil)))))
    (Evl.pss_cut (ps_set (i := 6) nd rfl (.inl rfl) (pe_ifExp (pt_truth (pv 1) (by intro _; rfl)) (pv 1) (pe_callB (Sla.call_maxL rfl) (by rfl) mx (by decide +kernel) (pa_cons
        (pe_lc (own := [("_", 4), ("high", 5)]) (g := gTup K 2 (gCons (gName 4) (gCons (gName 5) gNil))) (tt := tYes) (te := tAdd (tVar 5) (tC (.int 1))) rfl nd (pi_list (pv 3)) (blkOk_by (N := nRe) (sc := defScope sRe) (by decide +kernel))
          (fun _ _ _ _ _ => pg_tup rfl (pgs_cons (pg_name (i := 4) nd rfl (.inl rfl)) (pgs_cons (pg_name (i := 5) nd rfl (.inl rfl)) pgs_nil))) (fun _ _ _ _ _ => pts_nil) (fun _ _ _ _ _ => pe_op op_add (pv 5) pe_int)) pa_nil))))
    (pss_cons (ps_set (i := 7) nd rfl (.inl rfl) (pe_op op_rep (pe_lst (pa_cons (pe_not (pv 2)) pa_nil)) (pv 6)))
    (pss_cons (ps_for PassesOwn.never rfl (pi_list (pv 3)) (pg_tup rfl (pgs_cons (pg_name (i := 8) nd rfl (.inl rfl)) (pgs_cons (pg_name (i := 5) nd rfl (.inl rfl)) pgs_nil)))
      (pss_cons (ps_set (i := 9) nd rfl (.inl rfl) (pe_callB (call_min2 rfl) (by rfl) mn (by decide +kernel) (pa_cons (pe_op op_add (pv 5) pe_int) (pa_cons (pv 6) pa_nil))))
      (pss_one (ps_asg (pe_op op_rep (pe_lst (pa_cons (pv 2) pa_nil)) (pe_op op_sub (pv 9) (pv 8))) (Sla.pg_slice (pv 7) (po_some (pv 8)) (po_some (pv 9)))))))
    (pss_one (ps_ret (pe_ifExp (pt_truth (pv 1) (by intro _; rfl)) (pe_call GS hr rfl mS kS bS .nil pass0 (pa_cons (pe_lst pa_nil) (pa_cons (pv 7) pa_nil))) (pe_call GS hr rfl mS kS bS .nil pass0 (pa_cons (pv 7) (pa_cons (pe_lst (pa_cons (pe_not (pv 2)) pa_nil)) pa_nil))))))))), ?_⟩
  refine ⟨_, rfl, p, _, rfl, .inl (.inl hp), rfl, .int m, _, rfl, .bl ins, _, rfl, .ref ra, [], rfl, rfl, ?_⟩
  refine ⟨fun σ H' => ∃ k : Nat, σ = [some (.ref p), some (.int m), some (.bl ins), some (.ref ra), none, none, some (.int (k : Nat)), none, none, none] ∧ Same H H' ∧ k ≤ 300 ∧ (m = 0 → k ≤ 21 ∧ ∀ r ∈ rs, r.2 + 1 ≤ (k : Int)) ∧ (m ≠ 0 → (k : Int) = m), ?_, ?_⟩
  · refine ⟨_, rfl, (m != 0), rfl, ?_⟩
    by_cases hz : m = 0
    · subst hz
      refine iteF ?_
      refine ⟨_, rfl, ra, rfl, ⟨_, SqL.of hra⟩, fun D hD => ?_⟩
      have s1 : Same H (upd H D (.lst [])) := same_new hD _
      refine lc_list (xs := gvs) (fun i H' => Same H H' ∧ H' D = some (.lst (((rs.take i).map fun r => r.2 + 1).map V.int))) ⟨s1, upd_same⟩ (fun i H' _ ⟨s', _⟩ => SqL.of (s' _ _ hra)) ?_ ?_
      · rintro i y H' hy ⟨s', hD'⟩
        obtain ⟨⟨lo, hi⟩, hz, t, rfl, ht⟩ := A2.get hag hy
        have hi1 := get_lt hz
        refine ⟨t, _, rfl, .inl (.inl (s' _ _ ht)), rfl, .int lo, _, rfl, .int hi, [], rfl, rfl, rfl, ?_⟩
        refine ⟨_, rfl, _, _, rfl, rfl, _, hD', sz_line (by rw [List.length_map, List.length_map, List.length_take]; omega), same_mut s' hD _, ?_⟩
        rw [upd_same, take_map (fun r : Rg => r.2 + 1) hz, List.map_append]
        rfl
      · rintro H1 ⟨s1', hD1⟩
        rw [hgl, List.take_length] at hD1
        refine ⟨D, rs.map fun r => r.2 + 1, rfl, SqL.of hD1, by simpa using hne, fun M hM hle => ?_⟩
        obtain ⟨r0, hr0, e0⟩ := List.mem_map.mp hM
        have b0 := hrg r0 hr0
        unfold RgOk at b0
        have eM : M = ((M.toNat : Nat) : Int) := by omega
        refine ⟨M.toNat, by rw [← eM]; rfl, s1', by omega, fun _ => ⟨by omega, fun r hr => ?_⟩, fun z => absurd rfl z⟩
        have := hle (r.2 + 1) (List.mem_map.mpr ⟨r, hr, rfl⟩)
        omega
    · have e : (m != 0) = true := bne_iff_ne.mpr hz
      rw [e]
      refine iteT ⟨_, rfl, m.toNat, ?_, Same.refl _, by omega, fun z => absurd z hz, fun _ => by omega⟩
      rw [show ((m.toNat : Nat) : Int) = m by omega]
      rfl
  rintro σ H1 ⟨n, rfl, s1, hn, hd0, hd1⟩
  refine ⟨_, rfl, ins, rfl, by show 1 ≤ sizeLine; decide, fun l1 h1 => ?_⟩
  have t1 : Same H1 (upd H1 l1 (.lst [.bl (!ins)])) := same_new h1 _
  refine ⟨_, rfl, l1, _, _, rfl, rfl, upd_same, by omega, by omega, le_line (by show 1 * (n : Int).toNat < 10000000; omega), fun l2 h2 => ?_⟩
  have t2 := same_new h2 (.lst (List.replicate (n : Int).toNat [V.bl (!ins)]).flatten)
  have h2' : H l2 = none := s1.free (upd_none h2)
  have e2 : upd (upd H1 l1 (.lst [.bl (!ins)])) l2 (.lst (List.replicate (n : Int).toNat [V.bl (!ins)]).flatten) l2 = some (.lst ((mkL n ins []).map V.bl)) := by
    rw [upd_same, Int.toNat_natCast, rep_bl, mkL_nil]
  have t12 := s1.trans (t1.trans t2)
  generalize upd (upd H1 l1 (.lst [.bl (!ins)])) l2 (.lst (List.replicate (n : Int).toNat [V.bl (!ins)]).flatten) = H2 at t12 e2
  clear t2
  refine ⟨_, rfl, ra, rfl, ⟨_, SqL.of (t12 _ _ hra)⟩, ?_⟩
  refine for_list (xs := gvs) (fun i σ H' => ∃ o5 o8 o9, σ = [some (.ref p), some (.int m), some (.bl ins), some (.ref ra), none, o5, some (.int (n : Nat)), some (.ref l2), o8, o9] ∧ Same H H' ∧ H' l2 = some (.lst ((mkL n ins (rs.take i)).map V.bl)))
    ⟨_, _, _, rfl, t12, e2⟩ (fun i σ H' _ ⟨_, _, _, _, s', _⟩ => SqL.of (s' _ _ hra)) ?_ ?_
  · rintro i y σ H' hy ⟨o5, o8, o9, rfl, s', hl'⟩
    obtain ⟨⟨lo, hi⟩, hz, t, rfl, ht⟩ := A2.get hag hy
    have bz := hrg _ (List.mem_of_getElem? hz)
    have b0 : 0 ≤ lo := bz.1
    have b1 : lo ≤ hi := bz.2.1
    have b2 : hi ≤ 20 := bz.2.2
    refine ⟨t, _, rfl, .inl (.inl (s' _ _ ht)), rfl, .int lo, _, rfl, .int hi, [], rfl, rfl, ?_⟩
    refine ⟨_, rfl, _, _, rfl, rfl, _, rfl, _, _, rfl, ?_⟩
    generalize hsp : (if ((n : Nat) : Int) < hi + 1 then ((n : Nat) : Int) else hi + 1) = sp
    have hsp' : sp = min (hi + 1) (n : Int) := by
      rw [← hsp]
      split <;> omega
    refine ⟨_, rfl, by show 1 ≤ sizeLine; decide, fun l3 h3 => ?_⟩
    have t3 : Same H' (upd H' l3 (.lst [.bl ins])) := same_new h3 _
    refine ⟨_, rfl, _, rfl, _, _, rfl, rfl, l3, _, _, rfl, rfl, upd_same, by omega, by omega, le_line (by show 1 * (sp - lo).toNat < 10000000; omega), fun l4 h4 => ?_⟩
    have t4 := same_new h4 (.lst (List.replicate (sp - lo).toNat [V.bl ins]).flatten)
    have hl4 := t4 _ _ (t3 _ _ hl')
    refine ⟨_, rfl, _, rfl, _, rfl, _, rfl, _, rfl, l2, l4, _, _, rfl, rfl, hl4, upd_same, ne_of_none (t3 _ _ hl') h4, le_line ?_, _, _, _, rfl, same_mut (s'.trans (t3.trans t4)) h2' _, ?_⟩
    · rw [rep_bl, List.length_map, List.length_map, mkL_len, List.length_replicate]
      omega
    · rw [upd_same, rep_bl, mk_put b0 b1 hsp', List.take_succ, hz]
      rfl
  rintro σ H3 ⟨o5, o8, o9, rfl, s3, hl2⟩
  rw [hgl, List.take_length] at hl2
  refine ⟨_, rfl, (m != 0), rfl, ?_⟩
  by_cases hz : m = 0
  · subst hz
    refine iteF ?_
    obtain ⟨k1, k2⟩ := hd0 rfl
    have dn : ([!ins] : BL) ≠ [] := by simp
    refine ⟨_, rfl, _, rfl, ins, rfl, by show 1 ≤ sizeLine; decide, fun l5 h5 => ?_⟩
    have t5 : Same H3 (upd H3 l5 (.lst [.bl (!ins)])) := same_new h5 _
    refine ⟨l2, l5, mkL n ins rs, [!ins], rfl, .inl (SqL.of (t5 _ _ hl2)), .inl (SqL.of upd_same), dn, by show 1 < 1000; decide, sc_ne dn, by rw [mkL_len]; omega, fun v' H7 s7 hv => ?_⟩
    have sl := stl_len (h := mkL n ins rs) dn
    rw [mkL_len] at sl
    refine q v' H7 (s3.trans (t5.trans s7)) ⟨_, hv, ⟨stl_Stl dn, fun j => ?_⟩, by omega, ?_⟩
    · rw [sq_stl dn]
      exact rel_head k2 j
    · exact Nat.dvd_trans (stl_dvd dn) (by show 1 ∣ 300; decide)
  · have e : (m != 0) = true := bne_iff_ne.mpr hz
    rw [e]
    refine iteT ?_
    have hn2 := hd1 hz
    have hm2 : 2 ≤ m ∧ m ≤ 100 ∧ m ∣ 300 := hm.resolve_left hz
    have hn300 : n ∣ 300 := by
      have := hm2.2.2
      rw [← hn2] at this
      exact Int.natCast_dvd_natCast.mp this
    have dn : mkL n ins rs ≠ [] := fun e => by
      have := mkL_len n ins rs
      rw [e] at this
      simp at this
      omega
    refine ⟨Nat.zero_le _, fun l5 h5 => ?_⟩
    have t5 : Same H3 (upd H3 l5 (.lst [])) := same_new h5 _
    refine ⟨_, rfl, l5, l2, [], mkL n ins rs, rfl, .inl (SqL.of upd_same), .inl (SqL.of (t5 _ _ hl2)), dn, by rw [mkL_len]; omega, sc_ne dn, by show 0 < 100000; decide, fun v' H7 s7 hv => ?_⟩
    have sl := stl_len (h := ([] : BL)) dn
    refine q v' H7 (s3.trans (t5.trans s7)) ⟨_, hv, ⟨stl_Stl dn, fun j => ?_⟩, Nat.le_trans sl.1 (by decide), ?_⟩
    · rw [sq_stl dn, ← hn2]
      exact rel_cyc (by omega) j
    · refine Nat.dvd_trans (stl_dvd dn) ?_
      rw [mkL_len]
      exact hn300
end
end Mw

set_option maxHeartbeats 1000000
namespace Lk
open PySem L2 PySem.Spec PyProof.Rows PySem.W
section
variable {prog : Program} {w : World} {A : Around} {s : Shared}
/-- one[0], one the lambda's parameter, an int at the head of a tuple -/
theorem key_call {f t c' : Addr} {items : Array Value} {m : Int} {u : Tok} {qual x : Str} {params : Arguments} {scope : Scope} {cl : List (Str × Addr)} {pm ctv : Value} {j : Nat} {p1 p2 p3 : Pos} (hroom : A.depth < recursionLimit)
    (of : s.heap.get? f = some (PySem.W.kla_obj "<lambda>" qual params (.Subscript (.Name x p1) (.Constant (.int 0) j p2) p3) scope cl pm c' ctv)) (hc : s.heap.CodeRec (.ref c') qual) (lim : s.heap.NoLimit)
    (hb : ∀ v, bindArgs (PySem.W.kla_fn "<lambda>" qual params (.Subscript (.Name x p1) (.Constant (.int 0) j p2) p3) scope cl pm (.ref c') ctv) ⟨[v], []⟩ = pure [(x, v)])
    (ht : IsTup s.heap t items) (h0 : items[0]? = some (.int m u)) (hk : scope.kind = .function) (hco : scope.isCoroutine = false) (hgen : scope.isGenerator = false) (hcell : ∀ y ∈ scope.names, y.2 ≠ .cell) (hl : scope.names.lookup x = some .local)
    (hd : (x == ("__debug__" : Str)) = false) :
    wpAny (model prog w) A (call (.ref f) [.ref t]) (PySem.W.KeyPure (.int m) s) (fun _ _ => False) s := by
  refine wpAny_call (PySem.W.kla_callFunE hroom of rfl hco hgen rfl hc ?_)
  rw [hb]
  refine wpAny_pure (wpAny_newFunctionEnv hcell (fun y hy => ?_) (fun h₁ hns hsb => ⟨lim.fresh _ hsb, ?_⟩) hk)
  · rcases List.mem_singleton.mp hy with rfl
    exact hl
  have kp : ∀ b o, s.heap.get? b = some o → h₁.get? b = some o := fun b o e => hsb.extBut b o (Nat.ne_of_lt (Heap.lt_size e)) (Heap.get?_push_of_some _ e)
  refine PySem.W.kla_codeExpr ?_
  refine Subscript_ (wpAny_Name (wpAny_loadName_local (v := .ref t) hk hl hns (by simp) ?_) hd)
  refine wpAny_Constant_int ?_
  have ht1 : IsTup h₁ t items := ht.keeps kp
  have hsz : 0 < items.size := by
    by_cases z : 0 < items.size
    · exact z
    · rw [Array.getElem?_eq_none (by omega)] at h0
      cases h0
  refine subscriptTail_builtinR (x := .int m u) ht1.typeIs slot_tuple_getitem.lookup (getItem_tuple (j := 0) ht1 (by omega) (by omega) ?_ h0 ⟨rfl, ?_⟩)
  · unfold seqIndex?
    simp [hsz]
  · exact ⟨h₁, _, rfl, kp, .int m u⟩
end
section
variable {X : Cx} {x y : Str} {p kpos lpos pos p1 p2 p3 : Pos} {e : Expr} {te : TE} {T : List (Addr × Str)} {c P : Addr} {params : Arguments} {scope : Scope} {j : Nat}
/-- a tuple whose first item is an int -/
def Key (K : PySem.W.Frag) (H : Hp) (v : V) (m : Int) : Prop := ∃ (p : Addr) (r : List V), v = .ref p ∧ SqT K H p (.int m :: r)
def tSortK (K : PySem.W.Frag) (T : List (Addr × Str)) (te : TE) : TE := fun σ H Q => te σ H fun v H1 => ∃ (a : Addr) (xs : List V), v = .ref a ∧ SqL K H1 a xs ∧ (∀ x ∈ xs, ∃ m, Key K H1 x m) ∧ LamX.Tabs T H1 ∧
  ∀ H2, LamX.ExtN H1 H2 → LamX.Tabs T H2 → ∀ D ys, H2 D = none → ys.Perm xs → Q (.ref D) (upd H2 D (.lst ys))
theorem seqL_ext {K : PySem.W.Frag} {H H' : Hp} {a : Addr} {xs : List V} (s : LamX.ExtN H H') (h : SqL K H a xs) : SqL K H' a xs := by
  rcases h with (h | ⟨o, h⟩) | h
  · exact .inl (.inl (s _ _ h (fun ps z => by cases z)))
  · exact .inl (.inr ⟨o, s _ _ h (fun ps z => by cases z)⟩)
  · exact .inr h
theorem seqT_ext {K : PySem.W.Frag} {H H' : Hp} {a : Addr} {xs : List V} (s : LamX.ExtN H H') (h : SqT K H a xs) : SqT K H' a xs := by
  rcases h with (h | ⟨o, h⟩) | h
  · exact .inl (.inl (s _ _ h (fun ps z => by cases z)))
  · exact .inl (.inr ⟨o, s _ _ h (fun ps z => by cases z)⟩)
  · exact .inr h
theorem keys_of {K : PySem.W.Frag} {H : Hp} : ∀ {xs : List V}, (∀ x ∈ xs, ∃ m, Key K H x m) → ∃ bs : List (V × Int), bs.map (·.1) = xs ∧ ∀ b ∈ bs, Key K H b.1 b.2
  | [], _ => ⟨[], rfl, fun b h => by cases h⟩
  | x :: xs, h => by
    obtain ⟨m, hm⟩ := h x List.mem_cons_self
    obtain ⟨bs, e, hb⟩ := keys_of (xs := xs) fun z hz => h z (List.mem_cons_of_mem _ hz)
    refine ⟨(x, m) :: bs, by rw [List.map_cons, e], fun b hb' => ?_⟩
    rcases List.mem_cons.mp hb' with rfl | hb'
    · exact hm
    · exact hb b hb'
def RK (h : Heap) (v : Value) (b : V × Int) : Prop := RelV b.1 v ∧ ∃ (t : Addr) (its : Array Value) (u : Tok), v = .ref t ∧ IsTup h t its ∧ its[0]? = some (.int b.2 u)
theorem each_of {pins : List (Addr × Obj)} {s : Shared} {σ : L2.St} {H : Hp} (I : Inv X pins σ H s) : ∀ {bs : List (V × Int)} {its : List Value}, (∀ b ∈ bs, Key X.K H b.1 b.2) → Vals (bs.map (·.1)) its → EachIs (RK s.heap) its bs
  | [], its, _, r => by
    rw [List.map_nil] at r
    cases r
    exact .nil
  | b :: bs, its, h, r => by
    rw [List.map_cons] at r
    cases r with
    | cons r1 r2 =>
      refine .cons ⟨r1, ?_⟩ (each_of I (fun z hz => h z (List.mem_cons_of_mem _ hz)) r2)
      obtain ⟨p, r, e, hT⟩ := h b List.mem_cons_self
      obtain ⟨its', rv, ht, _⟩ := I.tuple hT
      rw [e] at r1
      cases rv with
      | cons q1 q2 =>
        obtain ⟨u, rfl⟩ := q1
        exact ⟨p, _, u, r1, ht, rfl⟩
theorem vals_of {h : Heap} : ∀ {bs : List (V × Int)} {out : List Value}, EachIs (RK h) out bs → Vals (bs.map (·.1)) out
  | [], _, e => by
    cases e
    exact .nil
  | b :: bs, _, e => by
    cases e with
    | cons e1 e2 => exact .cons e1.1 (vals_of e2)
/-- sorted(e, key=lambda x: x[0]) -/
theorem pe_sortK {k : Nat} (hr : Room (k + 1) X.A) (hg : Gl X "sorted") (hm : X.mg "sorted" = none) (haa : PA X [e] (tCons te tNil)) (TB : LamX.TabB X.base X.mg c P) (hcode : X.env.code = .ref c) (hmT : (P, X.env.qual ++ "<lambda>") ∈ T) (hu : ∀ p ∈ T, p.1 = P → p.2 = X.env.qual ++ "<lambda>")
    (hdef : defaultsOf params X.env = ([], [])) (hk : scope.kind = .function) (hco : scope.isCoroutine = false) (hgen : scope.isGenerator = false) (hcell : ∀ y ∈ scope.names, y.2 = .local) (hl : scope.names.lookup x = some .local)
    (hbind : ∀ (q : Str) (cl : List (Str × Addr)) (pm cv ctv v : Value), bindArgs (PySem.W.kla_fn "<lambda>" q params (.Subscript (.Name x p1) (.Constant (.int 0) j p2) p3) scope cl pm cv ctv) ⟨[v], []⟩ = pure [(x, v)])
    (hd : (x == ("__debug__" : Str)) = false := by decide)
    (he : backTo pos (starEach [e] X.env) = (false, eval e X.env) :: backTo pos (starEach [] X.env) := by rfl) (hpl : (backTo pos (starEach [e] X.env)).any (·.1) = false := by rfl) :
    PE X (.Call (.Name "sorted" p) [e] [⟨some "key", .Lambda params (.Subscript (.Name x p1) (.Constant (.int 0) j p2) p3) scope lpos, kpos⟩] pos) (tSortK X.K T te) := by
  refine ⟨fun pins s σ H Q I h => ?_⟩
  refine wpAny_Call_Name_kw (ld_blt I hg hm rfl ?_)
  let F : V → Hp → Prop := fun v H1 => ∃ (a : Addr) (xs : List V), v = .ref a ∧ SqL X.K H1 a xs ∧ (∀ x ∈ xs, ∃ m, Key X.K H1 x m) ∧ LamX.Tabs T H1 ∧
    ∀ H2, LamX.ExtN H1 H2 → LamX.Tabs T H2 → ∀ D ys, H2 D = none → ys.Perm xs → Q (.ref D) (upd H2 D (.lst ys))
  refine PyProof.Rows.callWith_kw (thn (haa.run pos pins s σ H (fun xs H1 => match xs with | [v] => F v H1 | _ => False) I h) fun us s1 ⟨vs, H1, I1, r1, q1⟩ => ?_) he hpl rfl rfl
  obtain ⟨v, rfl, q1⟩ : ∃ v, vs = [v] ∧ F v H1 := by
    match vs, q1 with
    | [v], q1 => exact ⟨v, rfl, q1⟩
  obtain ⟨a, xs, rfl, hL, hK, hT, q⟩ := q1
  have eus : us = [.ref a] := Vals.ref1 r1
  subst eus
  show wpAny _ _ (evalAll ((do let v ← eval (.Lambda params (.Subscript (.Name x p1) (.Constant (.int 0) j p2) p3) scope lpos) X.env; standAt pos; pure v) :: [])) _ _ s1
  refine wpAny_evalAll_cons (wpAny_bind (LamX.lam_make2 I1 TB hcode hmT hu hT hdef (fun y hy e => ?_) fun f c' pm ctv H2 s2 I2 eN T2 hf hfn hfr hco' => ?_))
  · rw [hcell y hy] at e
    cases e
  refine wpAny_bind (wpAny_standAt (wpAny_pure (wpAny_evalAll_nil ?_)))
  show wpAny _ _ (call (.builtin "sorted") [.ref a] [(Str.ofString "key", .ref f)]) _ _ s2
  have hL2 := seqL_ext eN hL
  obtain ⟨its, rv, hpl2, hz⟩ := I2.list hL2
  obtain ⟨bs, ebs, hbs⟩ := keys_of hK
  have hbs2 : ∀ b ∈ bs, Key X.K H2 b.1 b.2 := fun b hb => by
    obtain ⟨p, r, e1, e2⟩ := hbs b hb
    exact ⟨p, r, e1, seqT_ext eN e2⟩
  rw [← ebs] at rv
  have hE := each_of I2 hbs2 rv
  obtain ⟨⟨oc, vs, t, hoc, hdc, hvc⟩, _, _⟩ := I2.hok c' _ hco'
  have hlen : bs.length ≤ sizeLine := by
    rw [← List.length_map (f := (·.1)) (as := bs), ebs]
    exact hz
  refine PySem.W.sorted_key_data (bs := bs) (R := RK s2.heap) (fun b => .int b.2) hpl2.isList hE (AllAlike.of fun _ _ => rfl) (Sortable.others fun _ => ⟨fun z => by (cases z), fun _ z => by (cases z)⟩) hlen (fun b _ => ?_) (ksk_s1 _ _) (fun _ => ksk_l1 _ _) (fun _ => ksk_t1 _ _) (fun v b hR hb h tk kp => ?_) (fun out cc h' tk kp fr hD hol hEo => ?_)
  · have := hr.un
    show X.A.units + 2 + 0 < cLine
    omega
  · obtain ⟨_, t', its', u, rfl, ht, h0⟩ := hR
    exact key_call (s := { s2 with heap := h, toks := tk }) hr.depth (kp _ _ hf) ⟨c', oc, vs, t, rfl, kp _ _ hoc, hdc, hvc⟩ (I2.nolimit.keeps kp) (fun v => hbind _ _ _ _ _ v) (ht.keeps kp) h0 hk hco hgen (fun y hy e => by rw [hcell y hy] at e; cases e) hl hd
  · have hp : (bs.mergeSort (dataLe false fun b => .int b.2)).Perm bs := List.mergeSort_perm bs _
    have hp2 := hp.map (·.1)
    rw [ebs] at hp2
    refine ⟨.ref _, _, I2.laid (t' := tk) (o := .lst ((bs.mergeSort (dataLe false fun b => .int b.2)).map (·.1))) kp (Nat.le_succ _) ?_, rfl, q H2 eN T2 _ _ (I2.hok.fresh (Nat.le_succ _)) hp2⟩
    refine ⟨by rw [hp2.length_eq]; exact hz, out, cc, vals_of hEo, hD⟩
end
end Lk

namespace Mw
open PySem L2
theorem all_take {α : Type} {x : List α} {i : Nat} {r : α} (g : α → Bool) (h : x[i]? = some r) : (x.take (i + 1)).all g = ((x.take i).all g && g r) := by
  rw [List.take_succ, h, List.all_append]
  simp
theorem any_take {α : Type} {x : List α} {i : Nat} {r : α} (g : α → Bool) (h : x[i]? = some r) : (x.take (i + 1)).any g = ((x.take i).any g || g r) := by
  rw [List.take_succ, h, List.any_append]
  simp
/-! ### what stays when all but the tables of code stays -/
abbrev ExtN := LamX.ExtN
abbrev Tabs := LamX.Tabs
theorem Same.extN {H H' : Hp} (s : Same H H') : ExtN H H' := fun b o h _ => s b o h
theorem Tabs.same {T : List (Addr × Str)} {H H' : Hp} (t : Tabs T H) (s : Same H H') : Tabs T H' := LamX.Tabs.ext t s
theorem TA.ext {K : PySem.W.Frag} {H H' : Hp} {v : V} {bs : BL} (s : ExtN H H') (h : TA K H v bs) : TA K H' v bs := by
  obtain ⟨p, e, h1, h2⟩ := h
  exact ⟨p, e, Lk.seqT_ext s h1, h2.elim (fun ⟨ob, e1, e2⟩ => .inl ⟨ob, s _ _ e1 (fun ps z => by cases z), e2⟩) .inr⟩
theorem PA.ext {K : PySem.W.Frag} {H H' : Hp} {v : V} {x : BL × BL} (s : ExtN H H') (h : PA K H v x) : PA K H' v x := by
  obtain ⟨p, a, b, e, h1, h2, h3⟩ := h
  exact ⟨p, a, b, e, Lk.seqT_ext s h1, h2.ext s, h3.ext s⟩
theorem Sa.ext {K : PySem.W.Frag} {H H' : Hp} {v : V} {f : Nat → Bool} (s : ExtN H H') (h : Sa K H v f) : Sa K H' v f := by
  obtain ⟨z, h1, h2⟩ := h
  exact ⟨z, h1.ext s, h2⟩
theorem Ls.ext {α : Type} {R : Hp → α → V → Prop} (m : ∀ {H H' : Hp}, ExtN H H' → ∀ x v, R H x v → R H' x v) {H H' : Hp} (s : ExtN H H') {xs : List α} {v : V} (h : Ls R H xs v) : Ls R H' xs v := by
  obtain ⟨r, vs, e, h1, h2, h3⟩ := h
  exact ⟨r, vs, e, s _ _ h1 (fun ps z => by cases z), h2.mono (m s), h3⟩
theorem RgAt.ext {H H' : Hp} (s : ExtN H H') (x : Rg) (v : V) (h : RgAt H x v) : RgAt H' x v := by
  obtain ⟨p, e, h1⟩ := h
  exact ⟨p, e, s _ _ h1 (fun ps z => by cases z)⟩
theorem RelAt.ext {H H' : Hp} (s : ExtN H H') (x : Rel) (v : V) (h : RelAt H x v) : RelAt H' x v := by
  obtain ⟨p, q, e, h1, h2, h3⟩ := h
  exact ⟨p, q, e, s _ _ h1 (fun ps z => by cases z), h2.ext RgAt.ext s, h3⟩
theorem RowAt.ext {H H' : Hp} (s : ExtN H H') (x : List Rel) (v : V) (h : RowAt H x v) : RowAt H' x v := Ls.ext RelAt.ext s h
theorem ConAt.ext {H H' : Hp} (s : ExtN H H') (x : List (List Rel)) (v : V) (h : ConAt H x v) : ConAt H' x v := Ls.ext RowAt.ext s h
theorem RuAt.ext {H H' : Hp} (s : ExtN H H') (x : Rule) (v : V) (h : RuAt H x v) : RuAt H' x v := by
  obtain ⟨p, q, e, h1, h2⟩ := h
  exact ⟨p, q, e, s _ _ h1 (fun ps z => by cases z), h2.ext s⟩
theorem RusAt.ext {H H' : Hp} (s : ExtN H H') (x : List Rule) (v : V) (h : RusAt H x v) : RusAt H' x v := Ls.ext RuAt.ext s h
theorem A2.perm {α : Type} {R : α → V → Prop} {ws vs : List V} (h : ws.Perm vs) : ∀ {xs : List α}, A2 R xs vs → ∃ zs, zs.Perm xs ∧ A2 R zs ws := by
  induction h with
  | nil => exact fun {xs} a => ⟨xs, List.Perm.refl _, a⟩
  | cons x _ ih =>
    intro xs a
    cases xs with
    | nil => cases (show _ = [] from a)
    | cons y ys =>
      obtain ⟨v, us, e, h1, h2⟩ := a
      cases e
      obtain ⟨zs, p, a'⟩ := ih h2
      exact ⟨y :: zs, p.cons y, _, _, rfl, h1, a'⟩
  | swap x y l =>
    intro xs a
    cases xs with
    | nil => cases (show _ = [] from a)
    | cons a1 r =>
      obtain ⟨v, us, e, h1, h2⟩ := a
      cases e
      cases r with
      | nil => cases (show _ = [] from h2)
      | cons a2 r =>
        obtain ⟨v, us, e, h3, h4⟩ := h2
        cases e
        exact ⟨a2 :: a1 :: r, List.Perm.swap _ _ _, _, _, rfl, h3, _, _, rfl, h1, h4⟩
  | trans _ _ ih1 ih2 =>
    intro xs a
    obtain ⟨zs, p, a'⟩ := ih2 a
    obtain ⟨zs', p', a''⟩ := ih1 a'
    exact ⟨zs', p'.trans p, a''⟩
/-! ### a def whose code object is told -/
structure FunC (K : PySem.W.Frag) (x qual : Str) (st : Stmt) (f : Addr) (fd : FuncData) (c : Addr) : Prop where
  ex : ∃ (oc : Value) (od : Option Addr) (kV doc pm : Value) (an : Option Addr) (ct : Value) (osl : Array (Option Value)),
    fd = PySem.W.fnOf x qual (defArgs st) (defBody st) (defScope st) .none kV doc pm an (.ref c) ct ∧ K.lookup f = some ⟨oc, od, .func fd, osl⟩ ∧ PySem.W.codeIn K (.ref c) qual = true
  kp : PySem.W.keepIn K (.ref f) = true
theorem FunC.fn {K : PySem.W.Frag} {x qual : Str} {st : Stmt} {f : Addr} {fd : FuncData} {c : Addr} (F : FunC K x qual st f fd c) : Fun K x qual st f fd := by
  obtain ⟨oc, od, kV, doc, pm, an, ct, osl, h⟩ := F.ex
  exact ⟨⟨oc, od, kV, doc, pm, an, _, ct, osl, h⟩, F.kp⟩
theorem FunC.ok {P : Program} {w : World} {K : PySem.W.Frag} {mg : Str → Option Value} {base : Heap} {x qual : Str} {st : Stmt} {f c : Addr} {fd : FuncData} {N ps : List Str} {k : Nat} {sp : Sp} (F : FunC K x qual st f fd c) (S : FnScope N ps (defScope st)) (len : ∀ vs H Q E, sp vs H Q E → vs.length = ps.length)
    (hbody : ∀ (A : Around) (outer : List Env) (s : Shared) (H : Hp) (vs : List V) (Q : VK) (E : XK), Room k (A.deeper (PyProof.Rows.envOfC qual (defScope st) s.heap.objs.size f (.ref c))) → sp vs H Q E →
      ∃ t, PSs (cxOf CX0 P w K mg base N qual (defScope st) f (.ref c) A outer s H E).nox (defBody st) t ∧ t { nx := fun _ H' => Q .non H', rt := Q } (start N vs) H) : FnOk P w K mg base CX0 (k + 1) f fd ps sp := by
  obtain ⟨oc, od, kV, doc, pm, an, ct, osl, rfl, lk, hcd⟩ := F.ex
  refine fn_of lk hcd S len fun A outer s H vs Q E hr hsp => ?_
  obtain ⟨t, h, q⟩ := hbody A outer s H vs Q E hr hsp
  exact ⟨t, h.nox, q⟩
/-! ### all numbers, none -/
theorem sa_all {K : PySem.W.Frag} {H : Hp} {v : V} (h : PA K H v ([], [true])) : Sa K H v fun _ => true := by
  have e : stl [] [true] = ([], [true]) := by decide
  have s := stl_Stl (h := []) (c := [true]) (by simp)
  rw [e] at s
  refine ⟨_, h, ⟨s, fun n => ?_⟩, by decide, by decide⟩
  rw [sq_hi (Nat.zero_le _)]
  unfold cv
  have : (((n : Int) - (([] : BL).length : Int)) % (([true] : BL).length : Int)).toNat = 0 := by
    show (((n : Int) - (([] : BL).length : Int)) % 1).toNat = 0
    rw [Int.emod_one]
    rfl
  rw [this]
  rfl
theorem sa_none {K : PySem.W.Frag} {H : Hp} {v : V} (h : PA K H v ([], [false])) : Sa K H v fun _ => false := by
  have e : stl [] [false] = ([], [false]) := by decide
  have s := stl_Stl (h := []) (c := [false]) (by simp)
  rw [e] at s
  refine ⟨_, h, ⟨s, fun n => ?_⟩, by decide, by decide⟩
  rw [sq_hi (Nat.zero_le _)]
  unfold cv
  have : (((n : Int) - (([] : BL).length : Int)) % (([false] : BL).length : Int)).toNat = 0 := by
    show (((n : Int) - (([] : BL).length : Int)) % 1).toNat = 0
    rw [Int.emod_one]
    rfl
  rw [this]
  rfl
/-- one set out of two -/
theorem cm_of {K : PySem.W.Frag} {op : Bool → Bool → Bool} {v1 v2 : V} {f g : Nat → Bool} {H : Hp} {Q : VK} {E : XK} (h1 : Sa K H v1 f) (h2 : Sa K H v2 g) (q : ∀ v' H', Same H H' → Sa K H' v' (fun n => op (f n) (g n)) → Q v' H') : spCm K op [v1, v2] H Q E := by
  obtain ⟨x, hx, dx⟩ := h1
  obtain ⟨y, hy, dy⟩ := h2
  obtain ⟨b1, b2, b3⟩ := dx.two dy
  refine ⟨v1, v2, x, y, rfl, hx, hy, dx.ne, dy.ne, b1, b2, b3, fun v' H' z s hz hg l1 l2 => q v' H' s ⟨z, hz, ⟨hg.1, fun n => ?_⟩, Nat.le_trans l1 (Nat.max_le.mpr ⟨dx.2.1, dy.2.1⟩), Nat.dvd_trans l2 (dx.lcm dy)⟩⟩
  rw [hg.2 n]
  show op (sq x.1 x.2 n) (sq y.1 y.2 n) = op (f n) (g n)
  rw [dx.1.2 n, dy.1.2 n]
section
variable {P : Program} {w : World} {K : PySem.W.Frag} {mg : Str → Option Value} {base : Heap}
/-! ### row_set -/
abbrev sRw : Stmt := top 26
abbrev nRw : List Str := ["row", "found", "relation"]
theorem scRw : FnScope nRw ["row"] (defScope sRw) := ⟨rfl, rfl, rfl, by decide +kernel, rfl, by decide +kernel, by decide +kernel⟩
abbrev qL : Str := (("row_set" : Str) ++ (".<locals>." : Str)) ++ ("<lambda>" : Str)
abbrev tbs (tp : Addr) : List (Addr × Str) := [(tp, qL)]
def RowOk (x : List Rel) : Prop := x ≠ [] ∧ x.length ≤ 2 ∧ ∀ r ∈ x, RelOk r
def spRw (K : PySem.W.Frag) (tp : Addr) : Sp := fun vs H Q _ => ∃ (v : V) (x : List Rel), vs = [v] ∧ RowAt H x v ∧ RowOk x ∧ Tabs (tbs tp) H ∧ ∀ v' H', ExtN H H' → Tabs (tbs tp) H' → Sa K H' v' (fun n => x.all (relB (n : Int))) → Q v' H'
theorem ok_rw {f fM fR c tp : Addr} {fd fdM fdR : FuncData} (F : FunC K "row_set" "row_set" sRw f fd c) (TB : LamX.TabB base mg c tp)
    (GM : FnOk P w K mg base CX0 4 fM fdM ["one", "other"] (spCm K fun a b => a && b)) (bM : Binds K fdM ["one", "other"] []) (kM : PySem.W.keepIn K (.ref fM) = true) (mM : mg "common" = some (.ref fM))
    (GR : FnOk P w K mg base CX0 4 fR fdR ["relation"] (spRe K)) (bR : Binds K fdR ["relation"] []) (kR : PySem.W.keepIn K (.ref fR) = true) (mR : mg "relation_set" = some (.ref fR))
    (hA : KP K mg "ALL" ([], [true])) (ms : mg "sorted" = none) :
    FnOk P w K mg base CX0 5 f fd ["row"] (spRw K tp) := by
  refine F.ok scRw (fun vs H Q E h => ?_) (fun A outer s H vs Q E hr h => ?_)
  · obtain ⟨v, x, rfl, _⟩ := h
    rfl
  obtain ⟨v, x, rfl, ⟨r, rvs, rfl, hr1, ha, hlr⟩, ⟨hne, hl2, hrk⟩, hT, q⟩ := h
  obtain ⟨an, mA, hA'⟩ := hA
  have nd := scRw.nd
  refine ⟨_, pss_cons (ps_set (i := 1) nd rfl (.inl rfl) (pe_glob rfl mA (v := .ref an) rfl))
    (pss_cons (ps_for PassesOwn.never rfl (pi_list (Lk.pe_sortK (T := tbs tp) (hr.mono (by decide : 3 + 1 ≤ 4)) rfl ms (pa_cons (pv 0) pa_nil) TB rfl (List.mem_singleton.mpr rfl) (fun p hp _ => by rw [List.mem_singleton.mp hp]; rfl) rfl rfl rfl rfl (by decide) rfl (fun _ _ _ _ _ _ => rfl))) (pg_name (i := 2) nd rfl (.inl rfl))
      (pss_one (ps_set (i := 1) nd rfl (.inl rfl) (pe_call GM hr rfl mM kM bM .nil pass0 (pa_cons (pv 1) (pa_cons (pe_call GR hr rfl mR kR bR .nil pass0 (pa_cons (pv 2) pa_nil)) pa_nil))))))
    (pss_one (ps_ret (pv 1)))), ?_⟩
  refine ⟨_, rfl, r, rvs, rfl, SqL.of hr1, fun y hy => ?_, hT, fun H1 e1 T1 D ys hD hp => ?_⟩
  · obtain ⟨i, hi⟩ := List.getElem?_of_mem hy
    obtain ⟨rel, _, p, qv, rfl, hp, _⟩ := A2.get ha hi
    exact ⟨rel.1, p, _, rfl, SqT.of hp⟩
  obtain ⟨zs, pz, az⟩ := A2.perm hp (ha.mono (RelAt.ext e1))
  have sD : Same H1 (upd H1 D (.lst ys)) := same_new hD _
  have az' := az.mono (RelAt.same sD)
  have hDD : upd H1 D (.lst ys) D = some (.lst ys) := upd_same
  generalize upd H1 D (.lst ys) = H2 at sD az' hDD
  refine ⟨D, rfl, ⟨_, SqL.of hDD⟩, ?_⟩
  refine for_list (xs := ys) (fun i σ H' => ∃ v o2, σ = [some (.ref r), some v, o2] ∧ Same H2 H' ∧ Sa K H' v (fun n => (zs.take i).all (relB (n : Int)))) ⟨_, _, rfl, Same.refl _, sa_all (hA' H2)⟩ (fun i σ H' _ ⟨_, _, _, s', _⟩ => SqL.of (s' _ _ hDD)) ?_ ?_
  · rintro i y σ H' hy ⟨v1, o2, rfl, s', hv⟩
    obtain ⟨rel, hz, hrel⟩ := A2.get az' hy
    refine ⟨_, rfl, _, rfl, y, rel, rfl, hrel.same s', hrk rel (pz.mem_iff.mp (List.mem_of_getElem? hz)), fun w2 H3 s3 hw => ?_⟩
    refine cm_of (E := E0) (hv.same s3) hw fun w4 H4 s4 h4 => ⟨_, _, rfl, (s'.trans s3).trans s4, ?_⟩
    have e : (fun n : Nat => (zs.take (i + 1)).all (relB (n : Int))) = fun n : Nat => (zs.take i).all (relB (n : Int)) && relB (n : Int) rel := funext fun n => all_take _ hz
    rw [e]
    exact h4
  · rintro σ H' ⟨v1, o2, rfl, s', hv⟩
    have e : (fun n : Nat => (zs.take ys.length).all (relB (n : Int))) = fun n : Nat => x.all (relB (n : Int)) := funext fun n => by
      rw [az.length, List.take_length]
      exact pz.all_eq
    rw [e] at hv
    exact ⟨_, rfl, q v1 H' (LamX.ExtN.trans e1 (Same.extN (sD.trans s'))) (Tabs.same T1 (sD.trans s')) hv⟩
/-! ### condition_set -/
abbrev sCo : Stmt := top 27
abbrev nCo : List Str := ["condition", "found", "row"]
theorem scCo : FnScope nCo ["condition"] (defScope sCo) := ⟨rfl, rfl, rfl, by decide +kernel, rfl, by decide +kernel, by decide +kernel⟩
def spCo (K : PySem.W.Frag) (tp : Addr) : Sp := fun vs H Q _ => ∃ (v : V) (x : List (List Rel)), vs = [v] ∧ ConAt H x v ∧ ConOk x ∧ Tabs (tbs tp) H ∧ ∀ v' H', ExtN H H' → Tabs (tbs tp) H' → Sa K H' v' (fun n => conB (n : Int) x) → Q v' H'
theorem ok_co {f fU fR tp : Addr} {fd fdU fdR : FuncData} (F : Fun K "condition_set" "condition_set" sCo f fd)
    (GU : FnOk P w K mg base CX0 5 fU fdU ["one", "other"] (spCm K fun a b => a || b)) (bU : Binds K fdU ["one", "other"] []) (kU : PySem.W.keepIn K (.ref fU) = true) (mU : mg "union" = some (.ref fU))
    (GR : FnOk P w K mg base CX0 5 fR fdR ["row"] (spRw K tp)) (bR : Binds K fdR ["row"] []) (kR : PySem.W.keepIn K (.ref fR) = true) (mR : mg "row_set" = some (.ref fR))
    (hN : KP K mg "NONE" ([], [false])) :
    FnOk P w K mg base CX0 6 f fd ["condition"] (spCo K tp) := by
  refine F.ok scCo (fun vs H Q E h => ?_) (fun cdv A outer s H vs Q E hr h => ?_)
  · obtain ⟨v, x, rfl, _⟩ := h
    rfl
  obtain ⟨v, x, rfl, ⟨r, cvs, rfl, hr1, ha, hlr⟩, ⟨hne, hl2, hrk⟩, hT, q⟩ := h
  obtain ⟨an, mA, hA'⟩ := hN
  have nd := scCo.nd
  refine ⟨_, pss_cons (ps_set (i := 1) nd rfl (.inl rfl) (pe_glob rfl mA (v := .ref an) rfl))
    (pss_cons (ps_for PassesOwn.never rfl (pi_list (pv 0)) (pg_name (i := 2) nd rfl (.inl rfl))
      (pss_one (ps_set (i := 1) nd rfl (.inl rfl) (pe_call GU hr rfl mU kU bU .nil pass0 (pa_cons (pv 1) (pa_cons (pe_call GR hr rfl mR kR bR .nil pass0 (pa_cons (pv 2) pa_nil)) pa_nil))))))
    (pss_one (ps_ret (pv 1)))), ?_⟩
  refine ⟨_, rfl, r, rfl, ⟨_, SqL.of hr1⟩, ?_⟩
  refine for_list (xs := cvs) (fun i σ H' => ∃ v o2, σ = [some (.ref r), some v, o2] ∧ ExtN H H' ∧ Tabs (tbs tp) H' ∧ Sa K H' v (fun n => conB (n : Int) (x.take i))) ⟨_, _, rfl, LamX.ExtN.refl _, hT, sa_none (hA' H)⟩ (fun i σ H' _ ⟨_, _, _, s', _⟩ => SqL.of (s' _ _ hr1 fun ps z => by cases z)) ?_ ?_
  · rintro i y σ H' hy ⟨v1, o2, rfl, s', T', hv⟩
    obtain ⟨row, hz, hrow⟩ := A2.get ha hy
    refine ⟨_, rfl, _, rfl, y, row, rfl, RowAt.ext s' _ _ hrow, hrk row (List.mem_of_getElem? hz), T', fun w2 H3 s3 T3 hw => ?_⟩
    refine cm_of (E := E0) (hv.ext s3) hw fun w4 H4 s4 h4 => ⟨_, _, rfl, LamX.ExtN.trans (LamX.ExtN.trans s' s3) (Same.extN s4), Tabs.same T3 s4, ?_⟩
    have e : (fun n : Nat => conB (n : Int) (x.take (i + 1))) = fun n : Nat => conB (n : Int) (x.take i) || row.all (relB (n : Int)) := funext fun n => any_take _ hz
    rw [e]
    exact h4
  · rintro σ H' ⟨v1, o2, rfl, s', T', hv⟩
    rw [show x.take cvs.length = x by rw [ha.length, List.take_length]] at hv
    exact ⟨_, rfl, q v1 H' s' T' hv⟩
end
end Mw

namespace Mw
open PySem L2
abbrev Fn := Nat → Bool
/-! ### sets with a head of up to 30 -/
def Sb (K : PySem.W.Frag) (H : Hp) (v : V) (f : Fn) : Prop := ∃ z, PA K H v z ∧ Gs z f ∧ z.1.length ≤ 30 ∧ z.2.length ∣ 300
theorem Sa.b {K : PySem.W.Frag} {H : Hp} {v : V} {f : Fn} (h : Sa K H v f) : Sb K H v f := by
  obtain ⟨z, h1, h2, h3, h4⟩ := h
  exact ⟨z, h1, h2, by omega, h4⟩
theorem Sb.same {K : PySem.W.Frag} {H H' : Hp} {v : V} {f : Fn} (s : Same H H') (h : Sb K H v f) : Sb K H' v f := by
  obtain ⟨z, h1, h2⟩ := h
  exact ⟨z, h1.same s, h2⟩
theorem Sb.ext {K : PySem.W.Frag} {H H' : Hp} {v : V} {f : Fn} (s : ExtN H H') (h : Sb K H v f) : Sb K H' v f := by
  obtain ⟨z, h1, h2⟩ := h
  exact ⟨z, h1.ext s, h2⟩
/-- just the set of no number is empty -/
theorem Gs.empty {z : BL × BL} {g : Nat → Bool} (hg : Gs z g) : z = ([], [false]) ↔ ∀ n, g n = false := by
  constructor
  · intro e n
    rw [← hg.2 n, e]
    show cv [false] ((n : Int) - 0) = false
    unfold cv
    have : (((n : Int) - 0) % (([false] : BL).length : Int)).toNat = 0 := by
      show (((n : Int) - 0) % 1).toNat = 0
      rw [Int.emod_one]
      rfl
    rw [this]
    rfl
  · intro h
    obtain ⟨h1, h2⟩ := hg.1.none fun n => by rw [hg.2 n, h n]
    exact Prod.ext h1 h2
section
variable {P : Program} {w : World} {K : PySem.W.Frag} {mg : Str → Option Value} {base : Heap}
/-! ### is_empty, is_within -/
abbrev sEm : Stmt := top 18
abbrev sWi : Stmt := top 19
theorem scEm : FnScope ["one"] ["one"] (defScope sEm) := ⟨rfl, rfl, rfl, by decide +kernel, rfl, by decide +kernel, by decide +kernel⟩
theorem scWi : FnScope ["one", "other"] ["one", "other"] (defScope sWi) := ⟨rfl, rfl, rfl, by decide +kernel, rfl, by decide +kernel, by decide +kernel⟩
def spEm (K : PySem.W.Frag) : Sp := fun vs H Q _ => ∃ (v : V) (x : BL × BL), vs = [v] ∧ PA K H v x ∧ ∀ b : Bool, (b = true ↔ x = ([], [false])) → Q (.bl b) H
theorem ok_em {f : Addr} {fd : FuncData} (F : Fun K "is_empty" "is_empty" sEm f fd) (N : KP K mg "NONE" ([], [false])) : FnOk P w K mg base CX0 1 f fd ["one"] (spEm K) := by
  refine F.ok scEm (fun vs H Q E h => ?_) (fun cdv A outer s H vs Q E hr h => ?_)
  · obtain ⟨v, x, rfl, _⟩ := h
    rfl
  obtain ⟨v, ⟨h, c⟩, rfl, hv, q⟩ := h
  obtain ⟨n, mN, hN⟩ := N
  have nd := scEm.nd
  refine ⟨_, pss_one (ps_ret (pe_cmpR (op_eqD hr.units) (pv 0) (pe_glob rfl mN (v := .ref n) rfl) (nomark _))), ?_⟩
  refine ⟨_, rfl, _, _, hv.dp, (hN H).dp, shp2 _ _, shp2 _ _, ?_⟩
  refine q _ ?_
  show (PyData.eqv (bsD h) (bsD []) && (PyData.eqv (bsD c) (bsD [false]) && true)) = true ↔ _
  rw [eqv_bs, eqv_bs, Bool.and_true, Bool.and_eq_true, decide_eq_true_eq, decide_eq_true_eq]
  constructor
  · rintro ⟨rfl, rfl⟩
    rfl
  · intro e
    cases e
    exact ⟨rfl, rfl⟩
def spWi (K : PySem.W.Frag) : Sp := fun vs H Q _ => ∃ (v1 v2 : V) (f g : Fn), vs = [v1, v2] ∧ Sb K H v1 f ∧ Sb K H v2 g ∧ ∀ (b : Bool) H', Same H H' → (b = true ↔ ∀ n, (f n && !g n) = false) → Q (.bl b) H'
theorem ok_wi {f fE fD : Addr} {fd fdE fdD : FuncData} (F : Fun K "is_within" "is_within" sWi f fd)
    (GE : FnOk P w K mg base CX0 1 fE fdE ["one"] (spEm K)) (bE : Binds K fdE ["one"] []) (kE : PySem.W.keepIn K (.ref fE) = true) (mE : mg "is_empty" = some (.ref fE))
    (GD : FnOk P w K mg base CX0 5 fD fdD ["one", "other"] (spCm K fun a b => a && !b)) (bD : Binds K fdD ["one", "other"] []) (kD : PySem.W.keepIn K (.ref fD) = true) (mD : mg "difference" = some (.ref fD)) :
    FnOk P w K mg base CX0 6 f fd ["one", "other"] (spWi K) := by
  refine F.ok scWi (fun vs H Q E h => ?_) (fun cdv A outer s H vs Q E hr h => ?_)
  · obtain ⟨v1, v2, f, g, rfl, _⟩ := h
    rfl
  obtain ⟨v1, v2, f, g, rfl, ⟨x, hx, gx, lx1, lx2⟩, ⟨y, hy, gy, ly1, ly2⟩, q⟩ := h
  have nd := scWi.nd
  refine ⟨_, pss_one (ps_ret (pe_call GE (hr.mono (by decide)) rfl mE kE bE .nil pass0 (pa_cons (pe_call GD hr rfl mD kD bD .nil pass0 (pa_cons (pv 0) (pa_cons (pv 1) pa_nil))) pa_nil))), ?_⟩
  have h1 : Nat.lcm x.2.length y.2.length ≤ 300 := Nat.le_of_dvd (by decide) (Nat.lcm_dvd lx2 ly2)
  have h2 : hsz x y ≤ 30 := Nat.max_le.mpr ⟨lx1, ly1⟩
  have h3 : x.2.length ≤ 300 := Nat.le_of_dvd (by decide) lx2
  have h4 : y.2.length ≤ 300 := Nat.le_of_dvd (by decide) ly2
  refine ⟨_, rfl, _, rfl, v1, v2, x, y, rfl, hx, hy, gx.1.nc, gy.1.nc, by omega, by omega, by omega, fun v' H' z s hz hg _ _ => ?_⟩
  refine ⟨v', z, rfl, hz, fun b hb => q b H' s ?_⟩
  rw [hb, hg.empty]
  constructor
  · intro e n
    have := e n
    rw [gx.2 n, gy.2 n] at this
    exact this
  · intro e n
    rw [gx.2 n, gy.2 n]
    exact e n
/-! ### moved -/
theorem sq_moved {h c : BL} {off : Nat} (n : Nat) : sq (List.replicate off false ++ h) c n = (decide (off ≤ n) && sq h c (n - off)) := by
  have hl : (List.replicate off false ++ h).length = off + h.length := by
    rw [List.length_append, List.length_replicate]
  by_cases y : n < off
  · rw [sq_lo (by omega), List.getD_eq_getElem?_getD, List.getElem?_append_left (by rw [List.length_replicate]; exact y), List.getElem?_replicate, if_pos y, decide_eq_false (by omega), Bool.false_and]
    rfl
  · rw [decide_eq_true (show off ≤ n by omega), Bool.true_and]
    by_cases z : n < off + h.length
    · rw [sq_lo (by omega), sq_lo (by omega), List.getD_eq_getElem?_getD, List.getElem?_append_right (by rw [List.length_replicate]; omega), ← List.getD_eq_getElem?_getD, List.length_replicate]
    · rw [sq_hi (by omega), sq_hi (by omega), hl]
      congr 1
      omega
abbrev sMv : Stmt := top 24
theorem scMv : FnScope ["one", "offset"] ["one", "offset"] (defScope sMv) := ⟨rfl, rfl, rfl, by decide +kernel, rfl, by decide +kernel, by decide +kernel⟩
def mvF (f : Fn) (off : Nat) : Fn := fun n => decide (off ≤ n) && f (n - off)
def spMv (K : PySem.W.Frag) : Sp := fun vs H Q _ => ∃ (v : V) (f : Fn) (off : Nat), vs = [v, nV off] ∧ Sa K H v f ∧ off ≤ 9 ∧ ∀ v' H', Same H H' → Sb K H' v' (mvF f off) → Q v' H'
theorem ok_mv {f fS : Addr} {fd fdS : FuncData} (F : Fun K "moved" "moved" sMv f fd)
    (GS : FnOk P w K mg base CX0 3 fS fdS ["head", "cycle"] (spSe K)) (bS : Binds K fdS ["head", "cycle"] []) (kS : PySem.W.keepIn K (.ref fS) = true) (mS : mg "settled" = some (.ref fS)) :
    FnOk P w K mg base CX0 4 f fd ["one", "offset"] (spMv K) := by
  refine F.ok scMv (fun vs H Q E h => ?_) (fun cdv A outer s H vs Q E hr h => ?_)
  · obtain ⟨v, f, off, rfl, _⟩ := h
    rfl
  obtain ⟨v, f, off, rfl, ⟨⟨h, c⟩, ⟨u, a1, a2, rfl, hu, ⟨p, ep, hp⟩, ⟨r, er, hr1⟩⟩, hg, l1, l2⟩, hb, q⟩ := h
  subst ep er
  have hp : Tn.NT K H p (h.map V.bl) := hp
  have hr1 : Tn.NT K H r (c.map V.bl) := hr1
  have hc : c ≠ [] := hg.1.nc
  have l1 : h.length ≤ 21 := l1
  have l2 : c.length ∣ 300 := l2
  have l3 : c.length ≤ 300 := Nat.le_of_dvd (by decide) l2
  refine ⟨_, pss_one (ps_ret (pe_call GS hr rfl mS kS bS .nil pass0 (pa_cons (pe_op Tn.cat (pe_op Tn.rep (Tn.pe_tupN (pa_cons pe_bl pa_nil)) (pv 1)) (pe_ix ix_tup (pv 0) pe_int (fun _ _ => rfl))) (pa_cons (pe_ix ix_tup (pv 0) pe_int (fun _ _ => rfl)) pa_nil)))), ?_⟩
  refine ⟨by show 1 ≤ sizeLine; decide, fun p1 H1 s1 t1 => ?_⟩
  refine ⟨_, rfl, p1, _, _, rfl, rfl, t1, by simp, by omega, by omega, by show 1 ≤ 1000; decide, fun p2 H2 s2 t2 => ?_⟩
  rw [Int.toNat_natCast, rep_bl] at t2
  have s12 := s1.trans s2
  refine ⟨_, rfl, u, _, 0, .ref p, rfl, rfl, Ts.same s12 hu, atI_nat (j := 0) rfl, p2, p, _, _, rfl, rfl, t2, Tn.same s12 hp, le_line (by rw [List.length_map, List.length_map, List.length_replicate]; omega), fun p3 H3 s3 t3 => ?_⟩
  rw [← List.map_append] at t3
  have s13 := s12.trans s3
  have hl : (List.replicate off false ++ h).length = off + h.length := by rw [List.length_append, List.length_replicate]
  refine ⟨_, rfl, u, _, 1, .ref r, rfl, rfl, Ts.same s13 hu, atI_nat (j := 1) rfl, p3, r, _, c, rfl, .inr t3, .inr (Tn.same s13 hr1), hc, by omega, sc_ne hc, by omega, fun v' H7 s7 hv => ?_⟩
  have sl := stl_len (h := List.replicate off false ++ h) hc
  refine q v' H7 (s13.trans s7) ⟨_, hv, ⟨stl_Stl hc, fun n => ?_⟩, by omega, Nat.dvd_trans (stl_dvd hc) l2⟩
  rw [sq_stl hc, sq_moved]
  show _ = (decide (off ≤ n) && f (n - off))
  rw [← hg.2]
end
end Mw

namespace Mw
open PySem L2
/-! ### the marks of some numbers -/
def hdL (k : Nat) (ms : List Nat) : BL := (List.range k).map fun (j : Nat) => decide (j ∈ ms)
theorem hdL_len (k : Nat) (ms : List Nat) : (hdL k ms).length = k := by simp [hdL]
theorem hdL_set {k n : Nat} {ms : List Nat} (h : n < k) : (hdL k ms).set n true = hdL k (ms ++ [n]) := by
  refine List.ext_getElem (by rw [List.length_set, hdL_len, hdL_len]) fun j h1 h2 => ?_
  rw [hdL_len] at h2
  rw [List.getElem_set]
  simp only [hdL, List.getElem_map, List.getElem_range, List.mem_append, List.mem_singleton]
  by_cases e : n = j
  · subst e
    rw [if_pos rfl, decide_eq_true (.inr rfl)]
  · rw [if_neg e]
    have : ¬ j = n := fun z => e z.symm
    simp [this]
theorem hdL_nil (k : Nat) : hdL k [] = List.replicate k false := by
  refine List.ext_getElem (by rw [hdL_len, List.length_replicate]) fun j h1 h2 => ?_
  simp [hdL]
theorem sq_hdL {k : Nat} {ms : List Nat} (h : ∀ n ∈ ms, n < k) (n : Nat) : sq (hdL k ms) [false] n = decide (n ∈ ms) := by
  by_cases z : n < k
  · rw [sq_lo (by rw [hdL_len]; exact z)]
    exact getD_map_range z
  · rw [sq_hi (by rw [hdL_len]; omega), decide_eq_false (fun m => z (h n m))]
    unfold cv
    have e : (((n : Int) - ((hdL k ms).length : Int)) % (([false] : BL).length : Int)).toNat = 0 := by
      show (((n : Int) - ((hdL k ms).length : Int)) % 1).toNat = 0
      rw [Int.emod_one]
      rfl
    rw [e]
    rfl
section
variable {P : Program} {w : World} {K : PySem.W.Frag} {mg : Str → Option Value} {base : Heap}
/-! ### set_of_numbers -/
abbrev sNs : Stmt := top 30
abbrev nNs : List Str := ["numbers", "head", "number"]
theorem scNs : FnScope nNs ["numbers"] (defScope sNs) := ⟨rfl, rfl, rfl, by decide +kernel, rfl, by decide +kernel, by decide +kernel⟩
def spNs (K : PySem.W.Frag) : Sp := fun vs H Q _ => ∃ (a : Addr) (ns : List Nat), vs = [.ref a] ∧ SqL K H a (ns.map nV) ∧ ns.length ≤ 20 ∧ (∀ n ∈ ns, n ≤ 20) ∧ ∀ v' H', Same H H' → Sb K H' v' (fun n => decide (n ∈ ns)) → Q v' H'
theorem ok_ns {f fS : Addr} {fd fdS : FuncData} (F : Fun K "set_of_numbers" "set_of_numbers" sNs f fd)
    (GS : FnOk P w K mg base CX0 3 fS fdS ["head", "cycle"] (spSe K)) (bS : Binds K fdS ["head", "cycle"] []) (kS : PySem.W.keepIn K (.ref fS) = true) (mS : mg "settled" = some (.ref fS)) (mx : mg "max" = none) :
    FnOk P w K mg base CX0 4 f fd ["numbers"] (spNs K) := by
  refine F.ok scNs (fun vs H Q E h => ?_) (fun cdv A outer s H vs Q E hr h => ?_)
  · obtain ⟨a, ns, rfl, _⟩ := h
    rfl
  obtain ⟨a, ns, rfl, ha, hl, hb, q⟩ := h
  have nd := scNs.nd
  refine ⟨_, pss_cons (ps_set (i := 1) nd rfl (.inl rfl) (pe_op op_rep (pe_lst (pa_cons pe_bl pa_nil)) (pe_callB (Sla.call_maxL rfl) (by rfl) mx (by decide +kernel) (pa_cons (pe_op op_cat (pe_lst (pa_cons pe_int pa_nil))
        (pe_lc (own := [("number", 2)]) (g := gName 2) (tt := tYes) (te := tAdd (tVar 2) (tC (.int 1))) rfl nd (pi_list (pv 0)) (blkOk_by (N := nNs) (sc := defScope sNs) (by decide +kernel)) (fun _ _ _ _ _ => pg_name (i := 2) nd rfl (.inl rfl)) (fun _ _ _ _ _ => pts_nil) (fun _ _ _ _ _ => pe_op op_add (pv 2) pe_int))) pa_nil))))
    (pss_cons (ps_for PassesOwn.never rfl (pi_list (pv 0)) (pg_name (i := 2) nd rfl (.inl rfl)) (pss_one (ps_asg pe_bl (pg_sub (pv 1) (pv 2) set_list))))
    (pss_one (ps_ret (pe_call GS hr rfl mS kS bS .nil pass0 (pa_cons (pv 1) (pa_cons (pe_lst (pa_cons pe_bl pa_nil)) pa_nil)))))), ?_⟩
  refine ⟨by show 1 ≤ sizeLine; decide, fun l1 h1 => ?_⟩
  have s1 : Same H (upd H l1 (.lst [.bl false])) := same_new h1 _
  refine ⟨by show 1 ≤ sizeLine; decide, fun l2 h2 => ?_⟩
  have s2 : Same (upd H l1 (.lst [.bl false])) (upd (upd H l1 (.lst [.bl false])) l2 (.lst [.int 0])) := same_new h2 _
  have s12 := s1.trans s2
  have e1 : upd (upd H l1 (.lst [.bl false])) l2 (.lst [.int 0]) l1 = some (.lst [.bl false]) := s2 _ _ upd_same
  have e2 : upd (upd H l1 (.lst [.bl false])) l2 (.lst [.int 0]) l2 = some (.lst [.int 0]) := upd_same
  generalize upd (upd H l1 (.lst [.bl false])) l2 (.lst [.int 0]) = H2 at s12 e1 e2
  clear s2 s1 h2
  have ha2 := s12.seq ha
  refine ⟨_, rfl, a, rfl, ⟨_, ha2⟩, fun D hD => ?_⟩
  refine lc_list (xs := ns.map nV) (fun i H' => Same H2 H' ∧ H' D = some (.lst (((ns.take i).map fun (n : Nat) => (n : Int) + 1).map V.int))) ⟨same_new hD _, upd_same⟩ (fun i H' _ ⟨s', _⟩ => s'.seq ha2) ?_ ?_
  · rintro i y H' hy ⟨s', hD'⟩
    rw [List.getElem?_map] at hy
    obtain ⟨n, hn, rfl⟩ := Option.map_eq_some_iff.mp hy
    have hi := get_lt hn
    refine ⟨rfl, _, rfl, _, _, rfl, rfl, _, hD', sz_line (by rw [List.length_map, List.length_map, List.length_take]; omega), same_mut s' hD _, ?_⟩
    rw [upd_same, take_map (fun n : Nat => (n : Int) + 1) hn, List.map_append]
    rfl
  rintro H3 ⟨s3, hD3⟩
  rw [List.length_map, List.take_length] at hD3
  refine ⟨l2, D, _, _, rfl, rfl, s3 _ _ e2, hD3, le_line (by rw [List.length_map, List.length_map]; show 1 + ns.length < 10000000; omega), fun l4 h4 => ?_⟩
  have s4 := same_new h4 (.lst ([V.int 0] ++ (ns.map fun (n : Nat) => (n : Int) + 1).map V.int))
  refine ⟨l4, 0 :: ns.map fun (n : Nat) => (n : Int) + 1, rfl, SqL.of upd_same, by simp, fun M hM hle => ?_⟩
  have hM2 : 0 ≤ M ∧ M ≤ 21 := by
    rcases List.mem_cons.mp hM with rfl | hM
    · omega
    · obtain ⟨n, hn, rfl⟩ := List.mem_map.mp hM
      have := hb n hn
      omega
  have hk : ∀ n ∈ ns, n < M.toNat := fun n hn => by
    have := hle ((n : Int) + 1) (List.mem_cons_of_mem _ (List.mem_map.mpr ⟨n, hn, rfl⟩))
    omega
  have s34 := (s12.trans s3).trans s4
  refine ⟨l1, M, _, rfl, rfl, s4 _ _ (s3 _ _ e1), by omega, by omega, le_line (by show 1 * M.toNat < 10000000; omega), fun l5 h5 => ?_⟩
  have s5 := same_new h5 (.lst (List.replicate M.toNat [V.bl false]).flatten)
  have hl5 : H l5 = none := s34.free h5
  have s05 := s34.trans s5
  have e5 : upd (upd H3 l4 (.lst ([V.int 0] ++ (ns.map fun (n : Nat) => (n : Int) + 1).map V.int))) l5 (.lst (List.replicate M.toNat [V.bl false]).flatten) l5 = some (.lst ((hdL M.toNat []).map V.bl)) := by
    rw [upd_same, rep_bl, hdL_nil]
  generalize upd (upd H3 l4 (.lst ([V.int 0] ++ (ns.map fun (n : Nat) => (n : Int) + 1).map V.int))) l5 (.lst (List.replicate M.toNat [V.bl false]).flatten) = H5 at s05 e5
  clear s5 s4 s34
  have hk21 : M.toNat ≤ 21 := by omega
  generalize M.toNat = k at hk e5 hk21
  have ha5 := s05.seq ha
  refine ⟨_, rfl, a, rfl, ⟨_, ha5⟩, ?_⟩
  refine for_list (xs := ns.map nV) (fun i σ H' => ∃ o2, σ = [some (.ref a), some (.ref l5), o2] ∧ Same H H' ∧ H' l5 = some (.lst ((hdL k (ns.take i)).map V.bl))) ⟨_, rfl, s05, e5⟩ (fun i σ H' _ ⟨_, _, s', _⟩ => s'.seq ha) ?_ ?_
  · rintro i y σ H' hy ⟨o2, rfl, s', hd'⟩
    rw [List.getElem?_map] at hy
    obtain ⟨n, hn, rfl⟩ := Option.map_eq_some_iff.mp hy
    have hnk := hk n (List.mem_of_getElem? hn)
    refine ⟨_, rfl, _, rfl, l5, _, (n : Int), n, rfl, rfl, hd', ?_, _, rfl, same_mut s' hl5 _, ?_⟩
    · unfold ixN
      rw [List.length_map, hdL_len, if_pos (by omega), if_pos (by omega)]
      rfl
    · rw [upd_same]
      have e : ((hdL k (ns.take i)).map V.bl).set n (.bl true) = ((hdL k (ns.take i)).set n true).map V.bl := by
        rw [List.map_set]
      rw [e, hdL_set hnk, List.take_succ, hn]
      rfl
  rintro σ H6 ⟨o2, rfl, s6, hd6⟩
  rw [List.length_map, List.take_length] at hd6
  have dn : ([false] : BL) ≠ [] := by simp
  refine ⟨_, rfl, by show 1 ≤ sizeLine; decide, fun l7 h7 => ?_⟩
  have s7 : Same H6 (upd H6 l7 (.lst [.bl false])) := same_new h7 _
  refine ⟨l5, l7, hdL k ns, [false], rfl, .inl (SqL.of (s7 _ _ hd6)), .inl (SqL.of upd_same), dn, by show 1 < 1000; decide, sc_ne dn, by rw [hdL_len]; omega, fun v' H8 s8 hv => ?_⟩
  have sl := stl_len (h := hdL k ns) dn
  rw [hdL_len] at sl
  refine q v' H8 (s6.trans (s7.trans s8)) ⟨_, hv, ⟨stl_Stl dn, fun j => ?_⟩, by omega, Nat.dvd_trans (stl_dvd dn) (by show 1 ∣ 300; decide)⟩
  rw [sq_stl dn]
  exact sq_hdL hk j
end
end Mw

set_option maxHeartbeats 1000000
namespace Mw
open PySem L2
/-! ### choices within a message, in their order, with their places -/
inductive Part where
  | msg (t : T)
  | nod (u : T)
abbrev Item := List V × Part
abbrev Chs := List (List V × T)
/-- those of the nodes from place i on of a message at p; of the cases of a choice at p -/
def T.ch : T → Nat → List V → Chs
  | .nil, _, _ => []
  | .text _ r, i, p => r.ch (i + 1) p
  | .shw _ r, i, p => r.ch (i + 1) p
  | .num r, i, p => r.ch (i + 1) p
  | .cho hd cs o r, i, p => (p ++ [.int (i : Nat)], .cho hd cs o .nil) :: (cs.ch 0 (p ++ [.int (i : Nat)]) ++ o.ch 0 (p ++ [.int (i : Nat)] ++ [.str "other"])) ++ r.ch (i + 1) p
  | .cas k m r, i, p => m.ch 0 (p ++ [k]) ++ r.ch i p
/-- the choices that stand in the message itself -/
def T.top : T → Nat → List V → Chs
  | .nil, _, _ => []
  | .text _ r, i, p => r.top (i + 1) p
  | .shw _ r, i, p => r.top (i + 1) p
  | .num r, i, p => r.top (i + 1) p
  | .cho hd cs o r, i, p => (p ++ [.int (i : Nat)], .cho hd cs o .nil) :: r.top (i + 1) p
  | .cas _ _ r, i, p => r.top i p
def expN (x : List V × T) : Chs := match x.2 with
  | .cho hd cs o _ => (x.1, .cho hd cs o .nil) :: (cs.ch 0 x.1 ++ o.ch 0 (x.1 ++ [.str "other"]))
  | _ => []
def expI (x : Item) : Chs := match x.2 with
  | .msg t => t.ch 0 x.1
  | .nod u => expN (x.1, u)
theorem ch_top : ∀ (t : T) (i : Nat) (p : List V), Wf t false → t.ch i p = (t.top i p).flatMap expN
  | .nil, _, _, _ => rfl
  | .text _ r, i, p, h => ch_top r (i + 1) p h.2
  | .shw _ r, i, p, h => ch_top r (i + 1) p h.2
  | .num r, i, p, h => ch_top r (i + 1) p h.2
  | .cho hd cs o r, i, p, h => by
    show (_ :: (_ ++ _)) ++ r.ch (i + 1) p = expN (p ++ [.int (i : Nat)], .cho hd cs o .nil) ++ (r.top (i + 1) p).flatMap expN
    rw [ch_top r (i + 1) p h.2.2.2.2]
    rfl
  | .cas _ _ _, _, _, h => absurd h.1 (by decide)
/-- the cases of a choice and its other message, with their places -/
def T.inn : T → List V → List (List V × T)
  | .cas k m r, p => (p ++ [k], m) :: r.inn p
  | _, _ => []
theorem ch_inn : ∀ (t : T) (p : List V), Wf t true → t.ch 0 p = (t.inn p).flatMap fun x => x.2.ch 0 x.1
  | .nil, _, _ => rfl
  | .text _ r, _, h => absurd h.1 (by decide)
  | .shw _ r, _, h => absurd h.1 (by decide)
  | .num r, _, h => absurd h.1 (by decide)
  | .cho _ _ _ _, _, h => absurd h.1 (by decide)
  | .cas k m r, p, h => by
    show m.ch 0 (p ++ [k]) ++ r.ch 0 p = m.ch 0 (p ++ [k]) ++ (r.inn p).flatMap _
    rw [ch_inn r p h.2.2.2]
/-! ### how much is left -/
def wtI (x : Item) : Nat := match x.2 with
  | .msg t => 3 * t.sz + 1
  | .nod u => 3 * u.sz
def wtS (S : List Item) : Nat := (S.map wtI).sum
theorem wtS_app (a b : List Item) : wtS (a ++ b) = wtS a + wtS b := by simp [wtS]
theorem wtS_rev (a : List Item) : wtS a.reverse = wtS a := by
  unfold wtS
  rw [List.map_reverse, List.sum_reverse]
def nods (l : Chs) : List Item := l.map fun x => (x.1, .nod x.2)
def msgsI (l : Chs) : List Item := l.map fun x => (x.1, .msg x.2)
theorem wt_top : ∀ (t : T) (i : Nat) (p : List V), wtS (nods (t.top i p)) ≤ 3 * t.sz
  | .nil, _, _ => by simp [T.top, nods, wtS]
  | .text _ r, i, p => by
    have := wt_top r (i + 1) p
    simp only [T.top, T.sz]
    omega
  | .shw _ r, i, p => by
    have := wt_top r (i + 1) p
    simp only [T.top, T.sz]
    omega
  | .num r, i, p => by
    have := wt_top r (i + 1) p
    simp only [T.top, T.sz]
    omega
  | .cho hd cs o r, i, p => by
    have := wt_top r (i + 1) p
    have e : wtS (nods ((T.cho hd cs o r).top i p)) = 3 * (T.cho hd cs o .nil).sz + wtS (nods (r.top (i + 1) p)) := by
      simp [T.top, nods, wtS, wtI]
    rw [e]
    simp only [T.sz]
    omega
  | .cas _ _ r, i, p => by
    have := wt_top r i p
    simp only [T.top, T.sz]
    omega
theorem wt_inn : ∀ (t : T) (p : List V), wtS (msgsI (t.inn p)) ≤ 3 * t.sz
  | .nil, _ => by simp [T.inn, msgsI, wtS]
  | .text _ _, _ => by simp [T.inn, msgsI, wtS]
  | .shw _ _, _ => by simp [T.inn, msgsI, wtS]
  | .num _, _ => by simp [T.inn, msgsI, wtS]
  | .cho _ _ _ _, _ => by simp [T.inn, msgsI, wtS]
  | .cas k m r, p => by
    have := wt_inn r p
    have e : wtS (msgsI ((T.cas k m r).inn p)) = (3 * m.sz + 1) + wtS (msgsI (r.inn p)) := by
      simp [T.inn, msgsI, wtS, wtI]
    rw [e]
    simp only [T.sz]
    omega
section
variable {P : Program} {w : World} {K : PySem.W.Frag} {mg : Str → Option Value} {base : Heap}
/-! ### choices_within -/
abbrev sCw : Stmt := top 34
abbrev nCw : List Str := ["message", "found", "ahead", "where", "part", "choices", "place", "node", "inner", "key", "one"]
theorem scCw : FnScope nCw ["message"] (defScope sCw) := ⟨rfl, rfl, rfl, by decide +kernel, rfl, by decide +kernel, by decide +kernel⟩
end
end Mw

namespace Mw
open PySem L2
/-- the cases at cvs have the keys ks -/
def KeysAt (H : Hp) (cvs ks : List V) : Prop := cvs.length = ks.length ∧ ∀ (i : Nat) (v : V), cvs[i]? = some v → ∃ (q : Addr) (k x : V), v = V.ref q ∧ ks[i]? = some k ∧ H q = some (.tup [k, x])
/-- the cases of a chain, by its keys -/
theorem keys_at {H : Hp} : ∀ {cs : T} {cvs : List V}, Nodes H cs cvs → Wf cs true → KeysAt H cvs cs.keys
  | .nil, _, h, _ => by
    rw [show _ = [] from h]
    exact ⟨rfl, fun i v e => by simp at e⟩
  | .cas k m r, _, h, w => by
    obtain ⟨p, ws, ma, mvs, rfl, hp, hm, hms, hr⟩ := h
    obtain ⟨i1, i2⟩ := keys_at hr w.2.2.2
    refine ⟨congrArg (· + 1) i1, fun i v e => ?_⟩
    cases i with
    | zero =>
      have e' : V.ref p = v := by simpa using e
      subst e'
      exact ⟨p, k, .ref ma, rfl, rfl, hp⟩
    | succ i =>
      obtain ⟨q, k', x, e1, e2, e3⟩ := i2 i v (by simpa using e)
      exact ⟨q, k', x, e1, by simpa [T.keys] using e2, e3⟩
  | .text _ _, _, _, w => by cases w.1
  | .shw _ _, _, _, w => by cases w.1
  | .num _, _, _, w => by cases w.1
  | .cho _ _ _ _, _, _, w => by cases w.1
theorem msgs_len : ∀ {cs : T}, Wf cs true → cs.msgs.length = cs.keys.length ∧ cs.keys.length = cs.len
  | .nil, _ => ⟨rfl, rfl⟩
  | .cas k m r, w => by
    obtain ⟨h1, h2⟩ := msgs_len w.2.2.2
    exact ⟨congrArg (· + 1) h1, congrArg (· + 1) h2⟩
  | .text _ _, w => by cases w.1
  | .shw _ _, w => by cases w.1
  | .num _, w => by cases w.1
  | .cho _ _ _ _, w => by cases w.1
def T.oks : T → List V
  | .cho _ cs _ _ => cs.keys ++ [.str "other"]
  | _ => []
section
variable {P : Program} {w : World} {K : PySem.W.Frag} {mg : Str → Option Value} {base : Heap}
/-! ### keys_of -/
abbrev sKo : Stmt := top 29
abbrev nKo : List Str := ["node", "key", "_"]
theorem scKo : FnScope nKo ["node"] (defScope sKo) := ⟨rfl, rfl, rfl, by decide +kernel, rfl, by decide +kernel, by decide +kernel⟩
def spKo : Sp := fun vs H Q _ => ∃ (v : V) (u : T), vs = [v] ∧ Nodes H u [v] ∧ Wf u false ∧ u.isCho = true ∧ u.sz < 100000 ∧ ∀ l H', H l = none → Same H H' → H' l = some (.lst u.oks) → Q (.ref l) H'
theorem ok_ko {f fC : Addr} {fd fdC : FuncData} (F : Fun K "keys_of" "keys_of" sKo f fd) (GC : FnOk P w K mg base CX0 1 fC fdC ["node"] spCases) (bC : Binds K fdC ["node"] []) (kC : PySem.W.keepIn K (.ref fC) = true) (mC : mg "cases_of" = some (.ref fC)) :
    FnOk P w K mg base CX0 2 f fd ["node"] spKo := by
  refine F.ok scKo (fun vs H Q E h => ?_) (fun cdv A outer s H vs Q E hr h => ?_)
  · obtain ⟨v, u, rfl, _⟩ := h
    rfl
  obtain ⟨v, u, rfl, hn, hw, hc, hz, q⟩ := h
  have nd := scKo.nd
  refine ⟨_, (pss_one (ps_ret (pe_op op_cat (pe_lc (own := [("key", 1), ("_", 2)]) (g := (gTup K 2 (gCons (gName 1) (gCons (gName 2) gNil)))) (tt := tYes)  rfl nd (pi_list (pe_call GC hr rfl mC kC bC .nil pass0 (pa_cons (pv 0) pa_nil))) (blkOk_by (N := nKo) (sc := defScope sKo) (by decide +kernel)) (fun _ _ _ _ _ => (pg_tup rfl (pgs_cons (pg_name (i := 1) nd rfl (.inl rfl)) (pgs_cons (pg_name (i := 2) nd rfl (.inl rfl)) pgs_nil)))) (fun _ _ _ _ _ => pts_nil) (fun _ _ _ _ _ => (pv 1))) (pe_lst (pa_cons pe_str pa_nil))))), ?_⟩
  cases u with
  | cho hd cs o r =>
    obtain ⟨p, ws, ca, cvs, oa, ovs, e, hp, hca, hcs, ho, hos, hr'⟩ := hn
    cases e
    obtain ⟨k1, k2⟩ := keys_at hcs hw.2.2.1
    have hlen : cs.keys.length < 99999 := by
      have e1 := (msgs_len hw.2.2.1).2
      have e2 := len_sz cs
      simp only [T.sz] at hz
      omega
    refine ⟨_, rfl, p, ca, oa, hd, cvs, rfl, hp, hca, fun l hl => ⟨l, rfl, ⟨_, SqL.of upd_same⟩, fun D hD => ?_⟩⟩
    have s1 : Same H (upd H l (.lst cvs)) := same_new hl _
    have s3 : Same (upd H l (.lst cvs)) (upd (upd H l (.lst cvs)) D (.lst [])) := same_new hD _
    refine lc_list (xs := cvs) (fun i H' => Same (upd H l (.lst cvs)) H' ∧ H' D = some (.lst (cs.keys.take i))) ⟨s3, upd_same⟩ (fun i H' _ ⟨s', _⟩ => SqL.of (s' _ _ upd_same)) ?_ ?_
    · rintro i x H' hx ⟨s', hD'⟩
      obtain ⟨p', k, a, rfl, hk, hp'⟩ := k2 i x hx
      refine ⟨p', _, rfl, .inl (.inl (s' _ _ (s1 _ _ hp'))), rfl, k, _, rfl, a, [], rfl, rfl, rfl, ?_⟩
      refine ⟨_, rfl, _, hD', sz_line (by rw [List.length_take]; omega), same_mut s' hD _, ?_⟩
      rw [upd_same, List.take_succ, hk]
      rfl
    · rintro H' ⟨s', hD'⟩
      rw [k1, List.take_length] at hD'
      refine ⟨by show 1 ≤ sizeLine; decide, fun l2 hl2 => ?_⟩
      refine ⟨D, l2, _, _, rfl, rfl, same_new hl2 _ _ _ hD', upd_same, le_line (by show cs.keys.length + 1 < 10000000; omega), fun l3 hl3 => ?_⟩
      have s5 : Same H (upd (upd H' l2 (.lst [.str "other"])) l3 (.lst (cs.keys ++ [.str "other"]))) := ((s1.trans s').trans (same_new hl2 _)).trans (same_new hl3 _)
      exact q l3 _ (((s1.trans s').trans (same_new hl2 _)).free hl3) s5 upd_same
  | _ => cases hc
end
end Mw

set_option maxHeartbeats 1000000
namespace Mw
open PySem L2
/-- tuples stay -/
def TupK (H H' : Hp) : Prop := ∀ b, (∀ xs, H b = some (.tup xs) → H' b = some (.tup xs)) ∧ ∀ ob c, H b = some (.frz ob c) → H' b = some (.frz ob c)
theorem TupK.same {H H' : Hp} (s : Same H H') : TupK H H' := fun b => ⟨fun _ h => s _ _ h, fun _ _ h => s _ _ h⟩
theorem TupK.trans {H H1 H2 : Hp} (a : TupK H H1) (b : TupK H1 H2) : TupK H H2 := fun p => ⟨fun _ h => (b p).1 _ ((a p).1 _ h), fun _ _ h => (b p).2 _ _ ((a p).2 _ _ h)⟩
theorem TupK.lst {H : Hp} {d : Addr} {xs : List V} (h : H d = some (.lst xs)) (o : HO) : TupK H (upd H d o) := fun b => by
  refine ⟨fun xs e => ?_, fun ob c e => ?_⟩ <;> (rw [upd_ne (by rintro rfl; rw [h] at e; cases e)]; exact e)
theorem SqT.tk {K : PySem.W.Frag} {H H' : Hp} {p : Addr} {xs : List V} (k : TupK H H') (h : SqT K H p xs) : SqT K H' p xs := by
  rcases h with (h | ⟨o, h⟩) | h
  · exact .inl (.inl ((k p).1 _ h))
  · exact .inl (.inr ⟨o, (k p).2 _ _ h⟩)
  · exact .inr h
/-- what a part is, in the heap H that the messages stand in -/
def PartAt (H : Hp) : Part → V → Prop
  | .msg t, v => Wf t false ∧ ∃ a, v = .ref a ∧ At H a t
  | .nod u, v => Wf u false ∧ u.isCho = true ∧ Nodes H u [v]
/-- a pair of a place and a part -/
def ItAt (K : PySem.W.Frag) (H H' : Hp) (x : Item) (v : V) : Prop := ∃ q wp pv, v = .ref q ∧ SqT K H' q [.ref wp, pv] ∧ SqT K H' wp x.1 ∧ PartAt H x.2 pv
theorem ItAt.tk {K : PySem.W.Frag} {H H1 H2 : Hp} (k : TupK H1 H2) (x : Item) (v : V) (h : ItAt K H H1 x v) : ItAt K H H2 x v := by
  obtain ⟨q, wp, pv, e, h1, h2, h3⟩ := h
  exact ⟨q, wp, pv, e, SqT.tk k h1, SqT.tk k h2, h3⟩
theorem A2.rev {α : Type} {R : α → V → Prop} : ∀ {xs : List α} {vs : List V}, A2 R xs vs → A2 R xs.reverse vs.reverse
  | [], _, h => by rw [show _ = [] from h]; exact rfl
  | x :: xs, _, h => by
    obtain ⟨v, ws, rfl, h1, h2⟩ := h
    rw [List.reverse_cons, List.reverse_cons]
    exact A2.snoc (A2.rev h2) h1
theorem A2.last {α : Type} {R : α → V → Prop} {xs : List α} {vs : List V} {v : V} (h : A2 R xs vs) (hv : vs[vs.length - 1]? = some v) : ∃ ys x, xs = ys ++ [x] ∧ A2 R ys vs.dropLast ∧ R x v := by
  have hr := A2.rev h
  cases hx : xs.reverse with
  | nil =>
    rw [hx] at hr
    have : vs = [] := by
      have := congrArg List.reverse (show vs.reverse = [] from hr)
      simpa using this
    rw [this] at hv
    cases hv
  | cons x ys =>
    rw [hx] at hr
    obtain ⟨u, ws, e, h1, h2⟩ := hr
    have ev : vs = ws.reverse ++ [u] := by
      have := congrArg List.reverse e
      simpa using this
    have ex : xs = ys.reverse ++ [x] := by
      have := congrArg List.reverse hx
      simpa using this
    subst ev
    have eu : u = v := by simpa using hv
    subst eu
    refine ⟨ys.reverse, x, ex, ?_, h1⟩
    rw [List.dropLast_concat]
    have := A2.rev h2
    simpa using this
def topL : List T → Nat → List V → Chs
  | [], _, _ => []
  | u :: us, i, p => (if u.isCho = true then [(p ++ [.int (i : Nat)], u)] else []) ++ topL us (i + 1) p
theorem topL_snoc (u : T) : ∀ (us : List T) (i : Nat) (p : List V), topL (us ++ [u]) i p = topL us i p ++ (if u.isCho = true then [(p ++ [.int ((i + us.length : Nat) : Int)], u)] else [])
  | [], i, p => by simp [topL]
  | x :: us, i, p => by
    show (if x.isCho = true then _ else _) ++ topL (us ++ [u]) (i + 1) p = ((if x.isCho = true then _ else _) ++ topL us (i + 1) p) ++ _
    rw [topL_snoc u us (i + 1) p, List.append_assoc, List.length_cons, show i + 1 + us.length = i + (us.length + 1) by omega]
theorem top_nodes : ∀ (t : T) (i : Nat) (p : List V), Wf t false → t.top i p = topL t.nodes i p
  | .nil, _, _, _ => rfl
  | .text _ r, i, p, h => top_nodes r (i + 1) p h.2
  | .shw _ r, i, p, h => top_nodes r (i + 1) p h.2
  | .num r, i, p, h => top_nodes r (i + 1) p h.2
  | .cho hd cs o r, i, p, h => congrArg (List.cons ((p ++ [V.int (i : Nat)], T.cho hd cs o .nil) : List V × T)) (top_nodes r (i + 1) p h.2.2.2.2)
  | .cas _ _ _, _, _, h => absurd h.1 (by decide)
theorem wf_nodes : ∀ {t : T}, Wf t false → ∀ u ∈ t.nodes, Wf u false ∧ u.sz ≤ t.sz
  | .nil, _, u, hu => by cases hu
  | .text s r, h, u, hu => by
    rcases List.mem_cons.mp hu with rfl | hu
    · exact ⟨⟨h.1, trivial⟩, by simp only [T.sz]; omega⟩
    · obtain ⟨a, b⟩ := wf_nodes h.2 u hu
      exact ⟨a, by simp only [T.sz]; omega⟩
  | .shw s r, h, u, hu => by
    rcases List.mem_cons.mp hu with rfl | hu
    · exact ⟨⟨h.1, trivial⟩, by simp only [T.sz]; omega⟩
    · obtain ⟨a, b⟩ := wf_nodes h.2 u hu
      exact ⟨a, by simp only [T.sz]; omega⟩
  | .num r, h, u, hu => by
    rcases List.mem_cons.mp hu with rfl | hu
    · exact ⟨⟨h.1, trivial⟩, by simp only [T.sz]; omega⟩
    · obtain ⟨a, b⟩ := wf_nodes h.2 u hu
      exact ⟨a, by simp only [T.sz]; omega⟩
  | .cho hd cs o r, h, u, hu => by
    rcases List.mem_cons.mp hu with rfl | hu
    · exact ⟨⟨h.1, h.2.1, h.2.2.1, h.2.2.2.1, trivial⟩, by simp only [T.sz]; omega⟩
    · obtain ⟨a, b⟩ := wf_nodes h.2.2.2.2 u hu
      exact ⟨a, by simp only [T.sz]; omega⟩
  | .cas _ _ _, h, _, _ => absurd h.1 (by decide)
theorem top_mem : ∀ {t : T} {i : Nat} {p : List V} {x : List V × T}, x ∈ t.top i p → x.1.length = p.length + 1 ∧ x.2.sz ≤ t.sz
  | .nil, _, _, _, h => by cases h
  | .text s r, i, p, x, h => by
    obtain ⟨a, b⟩ := top_mem (t := r) h
    exact ⟨a, by simp only [T.sz]; omega⟩
  | .shw s r, i, p, x, h => by
    obtain ⟨a, b⟩ := top_mem (t := r) h
    exact ⟨a, by simp only [T.sz]; omega⟩
  | .num r, i, p, x, h => by
    obtain ⟨a, b⟩ := top_mem (t := r) h
    exact ⟨a, by simp only [T.sz]; omega⟩
  | .cho hd cs o r, i, p, x, h => by
    rcases List.mem_cons.mp h with rfl | h
    · exact ⟨by simp, by simp only [T.sz]; omega⟩
    · obtain ⟨a, b⟩ := top_mem (t := r) h
      exact ⟨a, by simp only [T.sz]; omega⟩
  | .cas k m r, i, p, x, h => by
    obtain ⟨a, b⟩ := top_mem (t := r) h
    exact ⟨a, by simp only [T.sz]; omega⟩
theorem inn_zip : ∀ {t : T} (p : List V), Wf t true → t.inn p = List.zipWith (fun k m => (p ++ [k], m)) t.keys t.msgs
  | .nil, _, _ => rfl
  | .cas k m r, p, h => congrArg (List.cons ((p ++ [k], m) : List V × T)) (inn_zip (t := r) p h.2.2.2)
  | .text _ _, _, h => absurd h.1 (by decide)
  | .shw _ _, _, h => absurd h.1 (by decide)
  | .num _, _, h => absurd h.1 (by decide)
  | .cho _ _ _ _, _, h => absurd h.1 (by decide)
theorem msgs_wf : ∀ {t : T}, Wf t true → ∀ m ∈ t.msgs, Wf m false ∧ m.sz + 1 ≤ t.sz
  | .nil, _, m, h => by cases h
  | .cas k m' r, w, m, h => by
    rcases List.mem_cons.mp h with rfl | h
    · exact ⟨w.2.2.1, by simp only [T.sz]; omega⟩
    · obtain ⟨a, b⟩ := msgs_wf w.2.2.2 m h
      exact ⟨a, by simp only [T.sz]; omega⟩
  | .text _ _, w, _, _ => absurd w.1 (by decide)
  | .shw _ _, w, _, _ => absurd w.1 (by decide)
  | .num _, w, _, _ => absurd w.1 (by decide)
  | .cho _ _ _ _, w, _, _ => absurd w.1 (by decide)
def innL (cs o : T) (p : List V) : List (List V × T) := cs.inn p ++ [(p ++ [.str "other"], o)]
theorem innL_zip {cs o : T} {p : List V} (h : Wf cs true) : innL cs o p = List.zipWith (fun k m => (p ++ [k], m)) (cs.keys ++ [V.str "other"]) (cs.msgs ++ [o]) := by
  unfold innL
  rw [List.zipWith_append (by rw [(msgs_len h).1]), inn_zip p h]
  rfl
theorem innL_exp {cs o : T} {p : List V} (h : Wf cs true) : (msgsI (innL cs o p)).flatMap expI = cs.ch 0 p ++ o.ch 0 (p ++ [.str "other"]) := by
  rw [ch_inn cs p h]
  unfold msgsI innL
  rw [List.flatMap_map, List.flatMap_append]
  congr 1
  simp [expI]
theorem len_wt {K : PySem.W.Frag} {H H' : Hp} : ∀ {S : List Item} {vs : List V}, A2 (ItAt K H H') S vs → S.length ≤ wtS S
  | [], _, _ => Nat.zero_le _
  | x :: S, _, ⟨v, ws, _, h1, h2⟩ => by
    have ih := len_wt h2
    have e : wtS (x :: S) = wtI x + wtS S := by simp [wtS]
    have h : 1 ≤ wtI x := by
      obtain ⟨_, _, _, _, _, _, hp⟩ := h1
      obtain ⟨p, pt⟩ := x
      cases pt with
      | msg t => show 1 ≤ 3 * t.sz + 1; omega
      | nod u =>
        have hc : u.isCho = true := hp.2.1
        cases u with
        | cho hd cs o r => show 1 ≤ 3 * (1 + cs.sz + o.sz + r.sz); omega
        | _ => cases hc
    rw [e, List.length_cons]
    omega
theorem wtS_le {S : List Item} {x : Item} (h : x ∈ S) : wtI x ≤ wtS S := by
  induction S with
  | nil => cases h
  | cons y S ih =>
    have e : wtS (y :: S) = wtI y + wtS S := by simp [wtS]
    rw [e]
    rcases List.mem_cons.mp h with rfl | h
    · omega
    · have := ih h
      omega
section
variable {P : Program} {w : World} {K : PySem.W.Frag} {mg : Str → Option Value} {base : Heap}
def spCw (K : PySem.W.Frag) : Sp := fun vs H Q _ => ∃ (a : Addr) (t : T), vs = [.ref a] ∧ At H a t ∧ Wf t false ∧ t.sz < 30000 ∧ ∀ l H' fvs, Same H H' → H' l = some (.lst fvs) → A2 (ItAt K H H') (nods (t.ch 0 [])) fvs → Q (.ref l) H'
theorem ok_cw {f fI fK fN : Addr} {fd fdI fdK fdN : FuncData} (F : Fun K "choices_within" "choices_within" sCw f fd)
    (GI : FnOk P w K mg base CX0 1 fI fdI ["node"] spIs) (bI : Binds K fdI ["node"] []) (kI : PySem.W.keepIn K (.ref fI) = true) (mI : mg "is_choice" = some (.ref fI))
    (GK : FnOk P w K mg base CX0 2 fK fdK ["node"] spKo) (bK : Binds K fdK ["node"] []) (kK : PySem.W.keepIn K (.ref fK) = true) (mK : mg "keys_of" = some (.ref fK))
    (GN : FnOk P w K mg base CX0 2 fN fdN ["node"] spInner) (bN : Binds K fdN ["node"] []) (kN : PySem.W.keepIn K (.ref fN) = true) (mN : mg "inner_messages" = some (.ref fN))
    (me : mg "enumerate" = none) (mz : mg "zip" = none) (mi : mg "isinstance" = none) (ml : mg "list" = none) :
    FnOk P w K mg base CX0 3 f fd ["message"] (spCw K) := by
  refine F.ok scCw (fun vs H Q E h => ?_) (fun cdv A outer s H vs Q E hr h => ?_)
  · obtain ⟨a, t, rfl, _⟩ := h
    rfl
  obtain ⟨a, t, rfl, hat, hwf, hsz, q⟩ := h
  have nd := scCw.nd
  refine ⟨_, (pss_cons (ps_set (i := 1) nd rfl (.inl rfl) (pe_lst pa_nil))
      (pss_cons (ps_set (i := 2) nd rfl (.inl rfl) (pe_lst (pa_cons (pe_tup (pa_cons (pe_tup pa_nil) (pa_cons (pv 0) pa_nil))) pa_nil)))
      (pss_cons (ps_while PassesOwn.never (pt_truth (pv 2) (by intro _; rfl)) (pss_cons (ps_asg (pe_bm0 PySem.F.plainAttrs_list PySem.F.slot_list_pop PySem.F.type_list_pop mt_pop (pv 2)) (pg_tup rfl (pgs_cons (pg_name (i := 3) nd rfl (.inr rfl)) (pgs_cons (pg_name (i := 4) nd rfl (.inl rfl)) pgs_nil))))
      (pss_one (ps_if (pt_val (pe_callB call_isi (by rfl) mi (by decide +kernel) (pa_cons (pv 4) (pa_cons (pe_bltn (v := .ty "list") (by rfl) ml (by decide +kernel) rfl) pa_nil)))) (pss_cons (ps_setLc (i := 5) (own := [("place", 6), ("node", 7)]) (g := (gTup K 2 (gCons (gName 6) (gCons (gName 7) gNil))))  (te := tTup (tCons (tOp (Ts.rCat K) (tVar 3) (tTup (tCons (tVar 6) tNil))) (tCons (tVar 7) tNil))) rfl nd rfl rfl (sw_true rfl rfl rfl (by decide +kernel)) (pi_enum rfl me (pa_cons (pv 4) pa_nil)) (blkOk_by (N := nCw) (sc := defScope sCw) (by decide +kernel)) (fun _ _ _ _ _ => (pg_tup rfl (pgs_cons (pg_name (i := 6) nd rfl (.inl rfl)) (pgs_cons (pg_name (i := 7) nd rfl (.inl rfl)) pgs_nil)))) (fun _ _ _ _ _ => (pts_one (pt_val (pe_call GI (hr.mono (by decide)) rfl mI kI bI .nil pass0 (pa_cons (pv 7) pa_nil))))) (fun _ _ _ _ _ => (pe_tup (pa_cons (pe_op Ts.cat (pv 3) (pe_tup (pa_cons (pv 6) pa_nil))) (pa_cons (pv 7) pa_nil)))))
      (pss_one (ps_expr (pe_bm PySem.F.plainAttrs_list PySem.F.slot_list_extend PySem.F.type_list_extend mt_extend (pv 2) (pa_cons (pe_revL (pv 5)) pa_nil))))) (pss_cons (ps_expr (pe_bm PySem.F.plainAttrs_list PySem.F.slot_list_append PySem.F.type_list_append mt_append (pv 1) (pa_cons (pe_tup (pa_cons (pv 3) (pa_cons (pv 4) pa_nil))) pa_nil)))
      (pss_cons (ps_setLc (i := 8) (own := [("key", 9), ("one", 10)]) (g := (gTup K 2 (gCons (gName 9) (gCons (gName 10) gNil)))) (tt := tYes) (te := tTup (tCons (tOp (Ts.rCat K) (tVar 3) (tTup (tCons (tVar 9) tNil))) (tCons (tVar 10) tNil))) rfl nd rfl rfl (sw_true rfl rfl rfl (by decide +kernel)) (pi_zip (by rfl) mz (pa_cons (pe_call GK hr rfl mK kK bK .nil pass0 (pa_cons (pv 4) pa_nil)) (pa_cons (pe_call GN hr rfl mN kN bN .nil pass0 (pa_cons (pv 4) pa_nil)) pa_nil))) (blkOk_by (N := nCw) (sc := defScope sCw) (by decide +kernel)) (fun _ _ _ _ _ => (pg_tup rfl (pgs_cons (pg_name (i := 9) nd rfl (.inl rfl)) (pgs_cons (pg_name (i := 10) nd rfl (.inl rfl)) pgs_nil)))) (fun _ _ _ _ _ => pts_nil) (fun _ _ _ _ _ => (pe_tup (pa_cons (pe_op Ts.cat (pv 3) (pe_tup (pa_cons (pv 9) pa_nil))) (pa_cons (pv 10) pa_nil)))))
      (pss_one (ps_expr (pe_bm PySem.F.plainAttrs_list PySem.F.slot_list_extend PySem.F.type_list_extend mt_extend (pv 2) (pa_cons (pe_revL (pv 8)) pa_nil))))))))))
      (pss_one (ps_ret (pv 1)))))), ?_⟩
  refine ⟨Nat.zero_le _, fun fa hfa => ?_⟩
  have s1 : Same H (upd H fa (.lst [])) := same_new hfa _
  refine ⟨Nat.zero_le _, fun e0 he0 => ⟨_, rfl, by show 2 ≤ sizeLine; decide, fun t0 ht0 => ⟨by show 1 ≤ sizeLine; decide, fun sa hsa => ?_⟩⟩⟩
  have s2 := same_new he0 (.tup [])
  have s3 := same_new ht0 (.tup [.ref e0, .ref a])
  have s4 := same_new hsa (.lst [.ref t0])
  have hsaH : H sa = none := (((s1.trans s2).trans s3)).free hsa
  have u1 : upd H fa (.lst []) fa = some (.lst []) := upd_same
  have u2 : upd (upd H fa (.lst [])) e0 (.tup []) e0 = some (.tup []) := upd_same
  have u3 : upd (upd (upd H fa (.lst [])) e0 (.tup [])) t0 (.tup [.ref e0, .ref a]) t0 = some (.tup [.ref e0, .ref a]) := upd_same
  have fsa : fa ≠ sa := ne_of_none ((s2.trans s3) _ _ u1) hsa
  have sw := ((s1.trans s2).trans s3).trans s4
  have hf1 := ((s2.trans s3).trans s4) _ _ u1
  have he1 := (s3.trans s4) _ _ u2
  have ht1 := s4 _ _ u3
  have hs1 : upd (upd (upd (upd H fa (.lst [])) e0 (.tup [])) t0 (.tup [.ref e0, .ref a])) sa (.lst [.ref t0]) sa = some (.lst [.ref t0]) := upd_same
  generalize upd (upd (upd (upd H fa (.lst [])) e0 (.tup [])) t0 (.tup [.ref e0, .ref a])) sa (.lst [.ref t0]) = H1 at sw hf1 he1 ht1 hs1
  clear s4 s3 s2 s1 hsa ht0 he0 u3 u2 u1
  let J : Nat → L2.St → Hp → Prop := fun m σ H' => ∃ (F : Chs) (S : List Item) (fvs svs : List V) (o3 o4 o5 o8 : Option V), σ = [some (.ref a), some (.ref fa), some (.ref sa), o3, o4, o5, none, none, o8, none, none] ∧ Same H H' ∧ H' fa = some (.lst fvs) ∧ A2 (ItAt K H H') (nods F) fvs ∧ H' sa = some (.lst svs) ∧ A2 (ItAt K H H') S svs ∧
    F ++ S.reverse.flatMap expI = t.ch 0 [] ∧ wtS S ≤ m ∧ F.length + m ≤ 100000 ∧ ∀ x ∈ S, x.1.length + wtI x ≤ 100000
  refine ⟨J, ⟨3 * t.sz + 1, [], [([], .msg t)], [], [.ref t0], none, none, none, none, rfl, sw, hf1, rfl, hs1, ⟨.ref t0, [], rfl, ⟨t0, e0, .ref a, rfl, SqT.of ht1, SqT.of he1, hwf, a, rfl, hat⟩, rfl⟩, by simp [expI], by simp [wtS, wtI], by show 0 + _ ≤ _; omega, fun x hx => ?_⟩, ?_⟩
  · rw [List.mem_singleton.mp hx]
    show 0 + (3 * t.sz + 1) ≤ 100000
    omega
  rintro m σ H' ⟨F, S, fvs, svs, o3, o4, o5, o8, rfl, s', hf', aF, hs', aS, hex, hwt, hFm, hpl⟩
  refine ⟨_, rfl, !svs.isEmpty, .inl ⟨svs, SqL.of hs', rfl⟩, ?_⟩
  refine ite2 (fun c => ?_) (fun c => ?_)
  · have hne : svs ≠ [] := by
      rintro rfl
      cases c
    have hlast : ∃ y, svs[svs.length - 1]? = some y := ⟨svs[svs.length - 1]'(by have := List.length_pos_iff.mpr hne; omega), List.getElem?_eq_getElem _⟩
    obtain ⟨y, hy⟩ := hlast
    obtain ⟨S', x, rfl, aS', hxy⟩ := A2.last aS hy
    have wx : wtS (S' ++ [x]) = wtS S' + wtI x := by simp [wtS]
    rw [wx] at hwt
    have hxl := hpl x (by simp)
    have k1 : TupK H' (upd H' sa (.lst svs.dropLast)) := TupK.lst hs' _
    have sx : Same H (upd H' sa (.lst svs.dropLast)) := same_mut s' hsaH _
    have hf2 : upd H' sa (.lst svs.dropLast) fa = some (.lst fvs) := by rw [upd_ne fsa]; exact hf'
    have hs2 : upd H' sa (.lst svs.dropLast) sa = some (.lst svs.dropLast) := upd_same
    refine ⟨J (m - 1), fun σ' H'' h => ⟨m - 1, ?_, h⟩, ?_⟩
    · have : 1 ≤ wtI x := by
        have h1 := len_wt (S := [x]) (K := K) (H := H) (H' := H') ⟨y, [], rfl, hxy, rfl⟩
        simpa [wtS] using h1
      omega
    refine ⟨_, rfl, .inl ⟨rfl, _, SqL.of hs'⟩, sa, svs, y, rfl, rfl, hs', hy, ?_⟩
    have aF2 := aF.mono (ItAt.tk k1)
    have aS2 := aS'.mono (ItAt.tk k1)
    obtain ⟨qq, wp, pv, rfl, hq1, hq2, hpt⟩ := ItAt.tk k1 _ _ hxy
    generalize upd H' sa (.lst svs.dropLast) = H2 at aF2 aS2 hq1 hq2 sx hf2 hs2
    refine ⟨qq, _, rfl, hq1, rfl, .ref wp, _, rfl, pv, [], rfl, rfl, ?_⟩
    obtain ⟨p, pt⟩ := x
    cases pt with
    | msg t' =>
      obtain ⟨wf', am, rfl, mvs, hm, hmn⟩ := hpt
      have hm2 := sx _ _ hm
      have hxl : p.length + (3 * t'.sz + 1) ≤ 100000 := hxl
      have wx' : wtI (p, Part.msg t') = 3 * t'.sz + 1 := rfl
      rw [wx'] at hwt
      refine ⟨_, rfl, .ref am, .ty "list", .type "list", .type "list", true, rfl, .ty "list", .base (.lst hm2), kit_ty (by decide +kernel), true, rfl, ?_⟩
      refine ⟨_, rfl, am, mvs, rfl, SqL.of hm2, fun D hD => ?_⟩
      have hDf : fa ≠ D := ne_of_none hf2 hD
      have hDs : sa ≠ D := ne_of_none hs2 hD
      have hns := Nodes.ns hmn
      refine lc_it walk_enum (fun j H'' => ∃ cvs, Same H2 H'' ∧ H'' D = some (.lst cvs) ∧ A2 (ItAt K H H'') (nods (topL (t'.nodes.take j) 0 p)) cvs ∧ cvs.length ≤ j) ⟨[], same_new hD _, upd_same, rfl, Nat.le_refl _⟩ (fun j H'' _ ⟨_, s2, _⟩ => SqL.of (s2 _ _ hm2)) ?_ ?_
      · rintro j y H'' H3 hj ⟨cvs, s2, hD2, aC, hcl⟩ ⟨Tt, x1, y1, rfl, hTt, rfl, hx1, hy1⟩
        have ex1 : x1 = V.int (j : Nat) := (Option.some.inj hx1).symm
        subst ex1
        obtain ⟨u, hu, hnu⟩ := Ns.get hns hy1
        have hum := List.mem_of_getElem? hu
        obtain ⟨wfu, szu⟩ := wf_nodes wf' u hum
        have s3 : Same H'' (upd H'' Tt (.tup [.int (j : Nat), y1])) := same_new hTt _
        have sH3 := sx.trans (s2.trans s3)
        have hlen : (t'.nodes.take j).length = j := by
          rw [List.length_take]
          have := get_lt hu
          omega
        have htk : t'.nodes.take (j + 1) = t'.nodes.take j ++ [u] := by
          rw [List.take_succ, hu]
          rfl
        refine ⟨Tt, _, rfl, .inl (.inl upd_same), rfl, .int (j : Nat), _, rfl, y1, [], rfl, rfl, rfl, ?_⟩
        refine ⟨_, rfl, y1, u, rfl, Nodes.same sH3 hnu, wfu, fun H4 s4 => ⟨_, rfl, ?_⟩⟩
        have sH4 := s3.trans s4
        cases hc : u.isCho with
        | false =>
          refine iteF ⟨cvs, s2.trans sH4, sH4 _ _ hD2, ?_, by omega⟩
          rw [htk, topL_snoc, hc, if_neg Bool.false_ne_true, List.append_nil]
          exact aC.mono (ItAt.tk (TupK.same sH4))
        | true =>
          refine iteT ⟨_, rfl, _, rfl, by show 1 ≤ sizeLine; decide, fun t1 h1 => ?_⟩
          have s5 : Same H4 (upd H4 t1 (.tup [.int (j : Nat)])) := same_new h1 _
          refine ⟨wp, t1, _, _, rfl, rfl, SqT.tk (TupK.same ((s2.trans sH4).trans s5)) hq2, .inl (.inl upd_same), le_line (by show p.length + 1 < 10000000; omega), fun t2 H5 s6 h2 => ?_⟩
          refine ⟨_, rfl, by show 2 ≤ sizeLine; decide, fun t3 h3 => ?_⟩
          have s7 : Same H5 (upd H5 t3 (.tup [.ref t2, y1])) := same_new h3 _
          have s47 := (sH4.trans s5).trans (s6.trans s7)
          have hDD := s47 _ _ hD2
          refine ⟨cvs, hDD, sz_line ?_, cvs ++ [.ref t3], same_mut (s2.trans s47) hD _, upd_same, ?_, by rw [List.length_append]; show cvs.length + 1 ≤ j + 1; omega⟩
          · have := len_wt aC
            have hj2 : j < 100000 := by
              have h1 := get_lt hu
              have h2 := hmn.length
              have h3 := len_sz t'
              have h4 := hns.length
              omega
            omega
          · have kD : TupK (upd H5 t3 (.tup [.ref t2, y1])) (upd (upd H5 t3 (.tup [.ref t2, y1])) D (.lst (cvs ++ [.ref t3]))) := TupK.lst hDD _
            rw [htk, topL_snoc, hc, if_pos rfl, hlen, Nat.zero_add]
            unfold nods
            rw [List.map_append]
            refine A2.snoc (aC.mono (ItAt.tk ((TupK.same s47).trans kD))) ⟨t3, t2, y1, rfl, SqT.tk kD (SqT.of upd_same), SqT.tk ((TupK.same s7).trans kD) h2, wfu, hc, hnu⟩
      · rintro H3 ⟨cvs, s2, hD2, aC, hcl⟩
        have hml : mvs.length = t'.nodes.length := hns.length
        rw [hml, List.take_length, ← top_nodes t' 0 p wf'] at aC
        have hf3 := s2 _ _ hf2
        have hs3 := s2 _ _ hs2
        refine ⟨_, rfl, .inl ⟨rfl, _, SqL.of hs3⟩, _, rfl, D, cvs, rfl, SqL.of hD2, fun R hR => ?_⟩
        have s4 : Same H3 (upd H3 R (.lst cvs.reverse)) := same_new hR _
        have hs4 := s4 _ _ hs3
        have hf4 := s4 _ _ hf3
        have l1 := len_wt aS2
        have l2 := len_wt aC
        have l3 := aS2.length
        have l4 := aC.length
        have wt := wt_top t' 0 p
        refine ⟨sa, R, svs.dropLast, cvs.reverse, rfl, rfl, hs4, upd_same, le_line (by rw [List.length_reverse]; omega), ?_⟩
        have k5 : TupK (upd H3 R (.lst cvs.reverse)) (upd (upd H3 R (.lst cvs.reverse)) sa (.lst (svs.dropLast ++ cvs.reverse))) := TupK.lst hs4 _
        have k25 := (TupK.same (s2.trans s4)).trans k5
        refine ⟨F, S' ++ (nods (t'.top 0 p)).reverse, fvs, svs.dropLast ++ cvs.reverse, _, _, _, _, rfl, same_mut (sx.trans (s2.trans s4)) hsaH _, by rw [upd_ne fsa]; exact hf4, aF2.mono (ItAt.tk k25), upd_same, A2.app ((A2.rev aC).mono (ItAt.tk ((TupK.same s4).trans k5))) (aS2.mono (ItAt.tk k25)), ?_, ?_, ?_, ?_⟩
        · rw [← hex, List.reverse_append, List.reverse_reverse, List.flatMap_append, List.reverse_append, List.reverse_singleton, List.flatMap_append]
          congr 2
          show (nods (t'.top 0 p)).flatMap expI = [((p, Part.msg t') : Item)].flatMap expI
          have e1 : [((p, Part.msg t') : Item)].flatMap expI = t'.ch 0 p := by simp [expI]
          rw [e1, ch_top t' 0 p wf']
          unfold nods
          rw [List.flatMap_map]
          rfl
        · rw [wtS_app, wtS_rev]
          omega
        · omega
        · intro x hx
          rcases List.mem_append.mp hx with hx | hx
          · exact hpl x (List.mem_append_left _ hx)
          · obtain ⟨z, hz, rfl⟩ := List.mem_map.mp (List.mem_reverse.mp hx)
            obtain ⟨z1, z2⟩ := top_mem hz
            show z.1.length + 3 * z.2.sz ≤ 100000
            omega
    | nod u =>
      obtain ⟨wfu, hcu, hnu⟩ := hpt
      cases u with
      | cho hd cs o r =>
        obtain ⟨p', ws, ca, cvs0, oa, ovs, e, hp, hca, hcs, ho, hos, hr'⟩ := id hnu
        cases e
        have wfc : Wf cs true := wfu.2.2.1
        have wfo : Wf o false := wfu.2.2.2.1
        have hxl : p.length + 3 * (1 + cs.sz + o.sz + r.sz) ≤ 100000 := hxl
        have wx' : wtI (p, Part.nod (T.cho hd cs o r)) = 3 * (1 + cs.sz + o.sz + r.sz) := rfl
        rw [wx'] at hwt
        have hszu : (T.cho hd cs o r).sz < 100000 := by
          show 1 + cs.sz + o.sz + r.sz < 100000
          omega
        refine ⟨_, rfl, .ref p', .ty "list", .type "tuple", .type "list", false, rfl, .ty "list", .base (.tup (sx _ _ hp)), kit_ty (by decide +kernel), false, rfl, ?_⟩
        refine ⟨_, rfl, .inl ⟨rfl, _, SqL.of hf2⟩, _, rfl, _, rfl, by show 2 ≤ sizeLine; decide, fun t1 h1 => ?_⟩
        have s3 : Same H2 (upd H2 t1 (.tup [.ref wp, .ref p'])) := same_new h1 _
        have hf3 := s3 _ _ hf2
        have hFl : fvs.length = F.length := by
          rw [aF2.length]
          simp [nods]
        refine ⟨fa, fvs, _, rfl, rfl, hf3, sz_line (by omega), ?_⟩
        have k3 : TupK (upd H2 t1 (.tup [.ref wp, .ref p'])) (upd (upd H2 t1 (.tup [.ref wp, .ref p'])) fa (.lst (fvs ++ [.ref t1]))) := TupK.lst hf3 _
        have sx3 : Same H (upd (upd H2 t1 (.tup [.ref wp, .ref p'])) fa (.lst (fvs ++ [.ref t1]))) := same_mut (sx.trans s3) hfa _
        have hf4 : upd (upd H2 t1 (.tup [.ref wp, .ref p'])) fa (.lst (fvs ++ [.ref t1])) fa = some (.lst (fvs ++ [.ref t1])) := upd_same
        have hs4 : upd (upd H2 t1 (.tup [.ref wp, .ref p'])) fa (.lst (fvs ++ [.ref t1])) sa = some (.lst svs.dropLast) := by
          rw [upd_ne fsa.symm]
          exact s3 _ _ hs2
        have aF3 : A2 (ItAt K H (upd (upd H2 t1 (.tup [.ref wp, .ref p'])) fa (.lst (fvs ++ [.ref t1])))) (nods (F ++ [(p, T.cho hd cs o .nil)])) (fvs ++ [.ref t1]) := by
          unfold nods
          rw [List.map_append]
          exact A2.snoc (aF2.mono (ItAt.tk ((TupK.same s3).trans k3))) ⟨t1, wp, .ref p', rfl, SqT.tk k3 (SqT.of upd_same), SqT.tk ((TupK.same s3).trans k3) hq2, ⟨wfu.1, wfu.2.1, wfc, wfo, trivial⟩, rfl, ⟨p', [], ca, cvs0, oa, ovs, rfl, hp, hca, hcs, ho, hos, rfl⟩⟩
        have aS3 := aS2.mono (ItAt.tk ((TupK.same s3).trans k3))
        have hq3 := SqT.tk ((TupK.same s3).trans k3) hq2
        generalize upd (upd H2 t1 (.tup [.ref wp, .ref p'])) fa (.lst (fvs ++ [.ref t1])) = H3 at sx3 hf4 hs4 aF3 aS3 hq3
        clear k3 s3 hf3 h1 aF2 aS2 hf2 hs2 hq1
        refine ⟨_, rfl, .ref p', _, rfl, Nodes.same sx3 hnu, wfu, rfl, hszu, fun kl H4 hkl s4 hk4 => ⟨_, rfl, H, .ref p', _, rfl, sx3.trans s4, hnu, wfu, hszu, fun il H5 ms hil s5 hms hats => ?_⟩⟩
        have hk5 := s5 _ _ hk4
        have hml := (msgs_len wfc).1
        have hmsl : ms.length = cs.msgs.length + 1 := by
          rw [hats.length]
          show (cs.msgs ++ [o]).length = _
          simp
        refine ⟨kl, il, _, ms, rfl, .inl (.inl hk5), .inl (.inl hms), fun D hD => ?_⟩
        have s45 := s4.trans s5
        have sx5 := sx3.trans s45
        have hf5 := s45 _ _ hf4
        have hs5 := s45 _ _ hs4
        have hq5 := SqT.tk (TupK.same s45) hq3
        have hzl := innL_zip (o := o) (p := p) wfc
        have hoks : (T.cho hd cs o r).oks = cs.keys ++ [V.str "other"] := rfl
        have hinn : (T.cho hd cs o r).inner = cs.msgs ++ [o] := rfl
        rw [hoks] at hk5
        rw [hinn] at hats
        have hil' : (innL cs o p).length = cs.keys.length + 1 := by
          rw [hzl, List.length_zipWith, List.length_append, List.length_append, hml]
          simp
        refine lc_it (walk_zip (K := K) (a := kl) (b := il) (xs := cs.keys ++ [V.str "other"]) (ys := ms) (n := cs.keys.length + 1) (by rw [List.length_append, hmsl, hml]; simp)) (fun j H'' => ∃ cvs, Same H5 H'' ∧ H'' D = some (.lst cvs) ∧ A2 (ItAt K H H'') (msgsI ((innL cs o p).take j)) cvs) ⟨[], same_new hD _, upd_same, rfl⟩ (fun j H'' _ ⟨_, s2, _⟩ => ⟨.inl (.inl (s2 _ _ hk5)), .inl (.inl (s2 _ _ hms))⟩) ?_ ?_
        · rintro j y H'' H6 hj ⟨cvs, s2, hD2, aC⟩ ⟨Tt, x1, y1, rfl, hTt, rfl, hx1, hy1⟩
          obtain ⟨m', am, hm', rfl, hatm⟩ := Ats.get hats hy1
          have hij : (innL cs o p)[j]? = some (p ++ [x1], m') := by
            have hx1' : (cs.keys ++ [V.str "other"])[j]? = some x1 := hx1
            rw [hzl, List.getElem?_zipWith, hx1', hm']
          have htk : (innL cs o p).take (j + 1) = (innL cs o p).take j ++ [(p ++ [x1], m')] := by
            rw [List.take_succ, hij]
            rfl
          have wfm : Wf m' false := by
            rcases List.mem_append.mp (List.mem_of_getElem? hm') with z | z
            · exact (msgs_wf wfc m' z).1
            · rw [List.mem_singleton.mp z]
              exact wfo
          have s3 : Same H'' (upd H'' Tt (.tup [x1, .ref am])) := same_new hTt _
          refine ⟨Tt, _, rfl, .inl (.inl upd_same), rfl, x1, _, rfl, .ref am, [], rfl, rfl, rfl, ?_⟩
          refine ⟨_, rfl, _, rfl, by show 1 ≤ sizeLine; decide, fun t1 h1 => ?_⟩
          have s5' : Same (upd H'' Tt (.tup [x1, .ref am])) (upd (upd H'' Tt (.tup [x1, .ref am])) t1 (.tup [x1])) := same_new h1 _
          refine ⟨wp, t1, _, _, rfl, rfl, SqT.tk (TupK.same ((s2.trans s3).trans s5')) hq5, .inl (.inl upd_same), le_line (by show p.length + 1 < 10000000; omega), fun t2 H7 s6 h2 => ?_⟩
          refine ⟨_, rfl, by show 2 ≤ sizeLine; decide, fun t3 h3 => ?_⟩
          have s7 : Same H7 (upd H7 t3 (.tup [.ref t2, .ref am])) := same_new h3 _
          have s47 := (s3.trans s5').trans (s6.trans s7)
          have hDD := s47 _ _ hD2
          have hcl := aC.length
          have hk1 := (msgs_len wfc).2
          have hk2 := len_sz cs
          refine ⟨cvs, hDD, sz_line ?_, cvs ++ [.ref t3], same_mut (s2.trans s47) hD _, upd_same, ?_⟩
          · have : (msgsI ((innL cs o p).take j)).length ≤ cs.keys.length + 1 := by
              unfold msgsI
              rw [List.length_map, List.length_take]
              omega
            omega
          · have kD : TupK (upd H7 t3 (.tup [.ref t2, .ref am])) (upd (upd H7 t3 (.tup [.ref t2, .ref am])) D (.lst (cvs ++ [.ref t3]))) := TupK.lst hDD _
            rw [htk]
            unfold msgsI
            rw [List.map_append]
            exact A2.snoc (aC.mono (ItAt.tk ((TupK.same s47).trans kD))) ⟨t3, t2, .ref am, rfl, SqT.tk kD (SqT.of upd_same), SqT.tk ((TupK.same s7).trans kD) h2, wfm, am, rfl, hatm⟩
        · rintro H6 ⟨cvs, s2, hD2, aC⟩
          rw [show (innL cs o p).take (cs.keys.length + 1) = innL cs o p by rw [← hil', List.take_length]] at aC
          have hf6 := s2 _ _ hf5
          have hs6 := s2 _ _ hs5
          refine ⟨_, rfl, .inl ⟨rfl, _, SqL.of hs6⟩, _, rfl, D, cvs, rfl, SqL.of hD2, fun R hR => ?_⟩
          have s7 : Same H6 (upd H6 R (.lst cvs.reverse)) := same_new hR _
          have hs7 := s7 _ _ hs6
          have hf7 := s7 _ _ hf6
          have l1 := len_wt aS3
          have l2 := len_wt aC
          have l3 := aS3.length
          have l4 := aC.length
          have wt1 := wt_inn cs p
          have wt2 : wtS (msgsI (innL cs o p)) = wtS (msgsI (cs.inn p)) + (3 * o.sz + 1) := by
            unfold innL msgsI
            rw [List.map_append, wtS_app]
            simp [wtS, wtI]
          refine ⟨sa, R, svs.dropLast, cvs.reverse, rfl, rfl, hs7, upd_same, le_line (by rw [List.length_reverse]; omega), ?_⟩
          have k5 : TupK (upd H6 R (.lst cvs.reverse)) (upd (upd H6 R (.lst cvs.reverse)) sa (.lst (svs.dropLast ++ cvs.reverse))) := TupK.lst hs7 _
          have k35 := (TupK.same ((s45.trans s2).trans s7)).trans k5
          refine ⟨F ++ [(p, T.cho hd cs o .nil)], S' ++ (msgsI (innL cs o p)).reverse, _, svs.dropLast ++ cvs.reverse, _, _, _, _, rfl, same_mut (sx5.trans (s2.trans s7)) hsaH _, by rw [upd_ne fsa]; exact hf7, aF3.mono (ItAt.tk k35), upd_same, A2.app ((A2.rev aC).mono (ItAt.tk ((TupK.same s7).trans k5))) (aS3.mono (ItAt.tk k35)), ?_, ?_, ?_, ?_⟩
          · rw [← hex, List.reverse_append, List.reverse_reverse, List.flatMap_append, List.reverse_append, List.reverse_singleton, List.flatMap_append, innL_exp wfc]
            simp [expI, expN]
          · rw [wtS_app, wtS_rev, wt2]
            omega
          · rw [List.length_append]
            show F.length + 1 + (m - 1) ≤ 100000
            omega
          · intro x hx
            rcases List.mem_append.mp hx with hx | hx
            · exact hpl x (List.mem_append_left _ hx)
            · obtain ⟨z, hz, rfl⟩ := List.mem_map.mp (List.mem_reverse.mp hx)
              rw [hzl] at hz
              obtain ⟨i, hi⟩ := List.getElem?_of_mem hz
              rw [List.getElem?_zipWith] at hi
              cases h1 : (cs.keys ++ [V.str "other"])[i]? with
              | none => rw [h1] at hi; cases hi
              | some k =>
                cases h2 : (cs.msgs ++ [o])[i]? with
                | none => rw [h1, h2] at hi; cases hi
                | some mm =>
                  rw [h1, h2] at hi
                  have hi := (Option.some.inj hi).symm
                  subst hi
                  have hsz' : mm.sz ≤ cs.sz + o.sz := by
                    rcases List.mem_append.mp (List.mem_of_getElem? h2) with z | z
                    · have := (msgs_wf wfc mm z).2
                      omega
                    · rw [List.mem_singleton.mp z]
                      omega
                  show (p ++ [k]).length + (3 * mm.sz + 1) ≤ 100000
                  rw [List.length_append]
                  show p.length + 1 + (3 * mm.sz + 1) ≤ 100000
                  omega
      | _ => cases hcu
  · have hne : svs = [] := by
      cases svs with
      | nil => rfl
      | cons _ _ => exact absurd rfl c
    subst hne
    have hS : S = [] := by
      have := aS.length
      cases S with
      | nil => rfl
      | cons _ _ => simp at this
    subst hS
    have hex : F = t.ch 0 [] := by simpa using hex
    subst hex
    exact ⟨_, rfl, q fa H' fvs s' hf' aF⟩
end
end Mw

namespace Mw
open PySem L2
abbrev Ens := List (Str × Fn)
/-- the sets of the categories of the rules, where just the numbers in rest are left -/
def sE : List Rule → Fn → Ens
  | [], _ => []
  | r :: rs, rest => (r.1, fun n => rest n && conB (n : Int) r.2) :: sE rs fun n => rest n && !conB (n : Int) r.2
/-- what is left behind them -/
def sR : List Rule → Fn → Fn
  | [], rest => rest
  | r :: rs, rest => sR rs fun n => rest n && !conB (n : Int) r.2
theorem sR_snoc (r : Rule) : ∀ (rs : List Rule) (rest : Fn), sR (rs ++ [r]) rest = fun n => sR rs rest n && !conB (n : Int) r.2
  | [], _ => rfl
  | x :: rs, rest => sR_snoc r rs _
theorem sE_snoc (r : Rule) : ∀ (rs : List Rule) (rest : Fn), sE (rs ++ [r]) rest = sE rs rest ++ [(r.1, fun n => sR rs rest n && conB (n : Int) r.2)]
  | [], _ => rfl
  | x :: rs, rest => congrArg (List.cons _) (sE_snoc r rs _)
theorem sE_keys : ∀ (rs : List Rule) (rest : Fn), (sE rs rest).map (·.1) = rs.map (·.1)
  | [], _ => rfl
  | x :: rs, rest => congrArg (List.cons _) (sE_keys rs _)
theorem catB_cons (n : Int) (r : Rule) (rs : List Rule) : catB n (r :: rs) = if conB n r.2 = true then r.1 else catB n rs := rfl
theorem catB_in (n : Int) : ∀ rs : List Rule, catB n rs = "other" ∨ catB n rs ∈ rs.map (·.1)
  | [] => .inl rfl
  | r :: rs => by
    unfold catB
    split
    · exact .inr List.mem_cons_self
    · exact (catB_in n rs).imp id (List.mem_cons_of_mem _)
theorem sR_ok (n : Nat) : ∀ (rs : List Rule) (rest : Fn), (∀ r ∈ rs, r.1 ≠ "other") → sR rs rest n = (rest n && decide (catB (n : Int) rs = "other"))
  | [], rest, _ => by
    show rest n = _
    rw [show catB (n : Int) [] = "other" from rfl, decide_eq_true rfl, Bool.and_true]
  | r :: rs, rest, h => by
    show sR rs _ n = _
    rw [sR_ok n rs _ fun x hx => h x (List.mem_cons_of_mem _ hx)]
    rw [catB_cons]
    cases hc : conB (n : Int) r.2 with
    | true =>
      rw [if_pos rfl, decide_eq_false (h r List.mem_cons_self)]
      simp
    | false =>
      rw [if_neg Bool.false_ne_true]
      simp
theorem sE_ok (n : Nat) : ∀ (rs : List Rule) (rest : Fn), (rs.map (·.1)).Nodup → (∀ r ∈ rs, r.1 ≠ "other") → ∀ p ∈ sE rs rest, p.2 n = (rest n && decide (catB (n : Int) rs = p.1))
  | [], _, _, _, p, hp => by cases hp
  | r :: rs, rest, nd, h, p, hp => by
    rw [List.map_cons, List.nodup_cons] at nd
    have ho := h r List.mem_cons_self
    rcases List.mem_cons.mp hp with rfl | hp
    · show (rest n && conB (n : Int) r.2) = _
      rw [catB_cons]
      cases hc : conB (n : Int) r.2 with
      | true => rw [if_pos rfl, decide_eq_true rfl]
      | false =>
        rw [if_neg Bool.false_ne_true]
        have : catB (n : Int) rs ≠ r.1 := fun e => by
          rcases catB_in (n : Int) rs with z | z
          · exact ho (e.symm.trans z)
          · exact nd.1 (e ▸ z)
        rw [decide_eq_false this]
    · rw [sE_ok n rs _ nd.2 (fun x hx => h x (List.mem_cons_of_mem _ hx)) p hp]
      have hk : p.1 ∈ rs.map (·.1) := by
        rw [← sE_keys rs]
        exact List.mem_map.mpr ⟨p, hp, rfl⟩
      have hne : r.1 ≠ p.1 := fun e => nd.1 (e ▸ hk)
      show ((rest n && !conB (n : Int) r.2) && _) = _
      rw [catB_cons]
      cases hc : conB (n : Int) r.2 with
      | true =>
        rw [if_pos rfl, decide_eq_false hne]
        simp
      | false =>
        rw [if_neg Bool.false_ne_true]
        simp
/-! ### a dict of sets -/
def EntS (K : PySem.W.Frag) (H : Hp) : Ens → List (L2.Key × V) → Prop
  | [], kvs => kvs = []
  | p :: es, kvs => ∃ v r, kvs = (Sum.inr p.1, v) :: r ∧ Sa K H v p.2 ∧ EntS K H es r
theorem EntS.mono {K : PySem.W.Frag} {H H' : Hp} (h : ∀ v f, Sa K H v f → Sa K H' v f) : ∀ {es : Ens} {kvs : List (L2.Key × V)}, EntS K H es kvs → EntS K H' es kvs
  | [], _, e => e
  | _ :: _, _, ⟨v, r, e, x, y⟩ => ⟨v, r, e, h _ _ x, EntS.mono h y⟩
theorem EntS.keys {K : PySem.W.Frag} {H : Hp} : ∀ {es : Ens} {kvs : List (L2.Key × V)}, EntS K H es kvs → kvs.map (·.1) = (es.map (·.1)).map Sum.inr
  | [], _, e => by rw [show _ = [] from e]; rfl
  | _ :: _, _, ⟨v, r, e, x, y⟩ => by rw [e, List.map_cons, EntS.keys y]; rfl
theorem EntS.snoc {K : PySem.W.Frag} {H : Hp} {k : Str} {v : V} {f : Fn} (hv : Sa K H v f) : ∀ {es : Ens} {kvs : List (L2.Key × V)}, EntS K H es kvs → EntS K H (es ++ [(k, f)]) (kvs ++ [(Sum.inr k, v)])
  | [], _, e => by
    rw [show _ = [] from e]
    exact ⟨v, [], rfl, hv, rfl⟩
  | _ :: _, _, ⟨w, r, e, x, y⟩ => ⟨w, r ++ [(Sum.inr k, v)], by rw [e]; rfl, x, EntS.snoc hv y⟩
theorem EntS.get {K : PySem.W.Frag} {H : Hp} {k : Str} : ∀ {es : Ens} {kvs : List (L2.Key × V)}, EntS K H es kvs → k ∈ es.map (·.1) → ∃ v f, valV kvs (Sum.inr k) = some v ∧ Sa K H v f ∧ (k, f) ∈ es
  | [], _, _, h => by cases h
  | p :: es, _, ⟨v, r, e, x, y⟩, h => by
    subst e
    by_cases c : p.1 = k
    · subst c
      exact ⟨v, p.2, valV_pos (p := ((Sum.inr p.1 : L2.Key), v)) rfl, x, List.mem_cons_self⟩
    · have hk : k ∈ es.map (·.1) := by
        rcases List.mem_cons.mp h with z | z
        · exact absurd z.symm c
        · exact z
      obtain ⟨b, f, g1, g2, g3⟩ := EntS.get y hk
      exact ⟨b, f, by rw [valV_neg (p := ((Sum.inr p.1 : L2.Key), v)) (fun z => c (Sum.inr.inj z))]; exact g1, g2, List.mem_cons_of_mem _ g3⟩
theorem put_new {kvs : List (L2.Key × V)} {ks : List Str} {n : Str} (v : V) (h : kvs.map (·.1) = ks.map Sum.inr) (hn : n ∉ ks) : putK kvs (Sum.inr n) v = kvs ++ [(Sum.inr n, v)] := by
  have a : (kvs.any fun kv => decide (kv.1 = Sum.inr n)) = false := by
    rw [List.any_eq_false]
    intro p hp z
    have z := of_decide_eq_true z
    have : p.1 ∈ ks.map (Sum.inr : Str → L2.Key) := by
      rw [← h]
      exact List.mem_map.mpr ⟨p, hp, rfl⟩
    obtain ⟨m, hm, e⟩ := List.mem_map.mp this
    rw [z] at e
    exact hn (Sum.inr.inj e ▸ hm)
  unfold putK
  rw [a, if_neg Bool.false_ne_true]
theorem TupK.put {H : Hp} {d : Addr} {kvs : List (L2.Key × V)} (h : H d = some (.dK kvs)) (o : HO) : TupK H (upd H d o) := fun b => by
  refine ⟨fun xs e => ?_, fun ob c e => ?_⟩ <;> (rw [upd_ne (by rintro rfl; rw [h] at e; cases e)]; exact e)
theorem TupK.go {B d : Addr} {H H' : Hp} (b : Box H B d) (g : Go B H H') : TupK H H' := fun p => by
  obtain ⟨ds, i, hB, _⟩ := b
  exact ⟨fun xs e => g.ext _ _ (by rintro rfl; rw [hB] at e; cases e) e, fun ob c e => g.ext _ _ (by
    rintro rfl
    rw [hB] at e
    cases e) e⟩
theorem Sa.tk {K : PySem.W.Frag} {H H' : Hp} {v : V} {f : Fn} (k : TupK H H') (h : Sa K H v f) : Sa K H' v f := by
  have hS : ∀ {p : Addr} {xs : List V}, SqT K H p xs → SqT K H' p xs := fun {p xs} h => by
    rcases h with (h | ⟨o, h⟩) | h
    · exact .inl (.inl ((k p).1 _ h))
    · exact .inl (.inr ⟨o, (k p).2 _ _ h⟩)
    · exact .inr h
  have hT : ∀ {v : V} {bs : BL}, TA K H v bs → TA K H' v bs := fun {v bs} h => by
    obtain ⟨p, e, h1, h2⟩ := h
    exact ⟨p, e, hS h1, h2.elim (fun ⟨ob, e1, e2⟩ => .inl ⟨ob, (k p).2 _ _ e1, e2⟩) .inr⟩
  obtain ⟨z, ⟨p, a, b, e, h1, h2, h3⟩, hd⟩ := h
  exact ⟨z, ⟨p, a, b, e, hS h1, hT h2, hT h3⟩, hd⟩
theorem ExtN.mut {H H' : Hp} {d : Addr} (s : ExtN H H') (h : H d = none) (o : HO) : ExtN H (upd H' d o) := fun b u q n => by
  rw [upd_ne (ne_of_none q h)]
  exact s b u q n
theorem Tabs.mut {T : List (Addr × Str)} {H : Hp} {d : Addr} (t : Tabs T H) {kvs kvs' : List (L2.Key × V)} (h : H d = some (.dK kvs)) : Tabs T (upd H d (.dK kvs')) := fun p hp => by
  obtain ⟨ps, h1, h2, h3⟩ := t p hp
  refine ⟨ps, ?_, h2, fun pos cv hc => ?_⟩
  · rw [upd_ne (by rintro rfl; rw [h] at h1; cases h1)]
    exact h1
  · obtain ⟨c, e1, e2⟩ := h3 pos cv hc
    refine ⟨c, e1, ?_⟩
    rw [upd_ne (by
      rintro rfl
      rw [h] at e2
      unfold LamX.CodeO at e2
      cases e2)]
    exact e2
theorem names_ok {rs : List Rule} (h : LanOk rs) : (rs.map (·.1)).Nodup ∧ ∀ r ∈ rs, r.1 ≠ "other" := by
  refine ⟨h.1.nodup (by decide), fun r hr e => ?_⟩
  have : r.1 ∈ cats := h.1.subset (List.mem_map.mpr ⟨r, hr, rfl⟩)
  rw [e] at this
  exact absurd this (by decide)
end Mw

set_option maxHeartbeats 1000000
namespace Mw
open PySem L2
/-- what the row says of the class CategorySets -/
structure CGC (K : PySem.W.Frag) (C : Addr) : Prop where
  c : Cls K C
  n1 : NoAttr K C "language"
  n2 : NoAttr K C "found"
  n3 : NoAttr K C "rest"
  n4 : NoAttr K C "moved_on"
section
variable {P : Program} {w : World} {K : PySem.W.Frag} {mg : Str → Option Value} {base : Heap} {C : Addr}
/-! ### CategorySets.__init__ -/
abbrev sGi : Stmt := mth (top 32) 0
theorem scGi : FnScope ["self", "language"] ["self", "language"] (defScope sGi) := ⟨rfl, rfl, rfl, by decide +kernel, rfl, by decide +kernel, by decide +kernel⟩
def cgF (lv rv : V) (d m : Addr) : List (Str × V) := [("language", lv), ("found", .ref d), ("rest", rv), ("moved_on", .ref m)]
def spGi (K : PySem.W.Frag) (C : Addr) : Sp := fun vs H Q _ => ∃ (o dx : Addr) (lv : V), vs = [.ref o, lv] ∧ H o = some (.ins C dx []) ∧
  ∀ d m rv H', (∀ a u, H a = some u → a ≠ o → H' a = some u) → H' o = some (.ins C dx (cgF lv rv d m)) → H d = none → H m = none → H' d = some (.dK []) → H' m = some (.dT []) → Sa K H' rv (fun _ => true) → Q .non H'
theorem ok_gi {f : Addr} {fd : FuncData} (F : Fun K "__init__" "CategorySets.__init__" sGi f fd) (R : CGC K C) (hA : KP K mg "ALL" ([], [true])) : FnOk P w K mg base CX0 1 f fd ["self", "language"] (spGi K C) := by
  refine F.ok scGi (fun vs H Q E h => ?_) (fun cdv A outer s H vs Q E hr h => ?_)
  · obtain ⟨o, dx, lv, rfl, _⟩ := h
    rfl
  obtain ⟨o, dx, lv, rfl, ho, q⟩ := h
  obtain ⟨an, mA, hA'⟩ := hA
  have nd := scGi.nd
  refine ⟨_, pss_cons (ps_fld (pv 0) (pv 1) rfl) (pss_cons (ps_fld (pv 0) pe_dnewK rfl) (pss_cons (ps_fld (pv 0) (pe_glob rfl mA (v := .ref an) rfl) rfl) (pss_one (ps_fld (pv 0) pe_dnewT rfl)))), ?_⟩
  refine ⟨_, rfl, _, rfl, o, C, dx, _, rfl, ho, R.c, R.n1, by show 0 < 1000; decide, ?_⟩
  refine fun d hd => ?_
  have hd0 : H d = none := upd_none hd
  have od : o ≠ d := ne_of_none ho hd0
  refine ⟨_, rfl, o, C, dx, [("language", lv)], rfl, by rw [upd_ne od]; exact upd_same, R.c, R.n2, by show 1 < 1000; decide, ?_⟩
  refine ⟨_, rfl, o, C, dx, [("language", lv), ("found", .ref d)], rfl, upd_same, R.c, R.n3, by show 2 < 1000; decide, ?_⟩
  refine fun m hm => ?_
  have hm1 := upd_none hm
  have hm2 := upd_none hm1
  have hm3 := upd_none hm2
  have hm0 : H m = none := upd_none hm3
  have om : o ≠ m := ne_of_none ho hm0
  have dm : d ≠ m := by
    rintro rfl
    rw [upd_same] at hm2
    cases hm2
  refine ⟨_, rfl, o, C, dx, [("language", lv), ("found", .ref d), ("rest", .ref an)], rfl, by rw [upd_ne om]; exact upd_same, R.c, R.n4, by show 3 < 1000; decide, ?_⟩
  refine q d m (.ref an) _ (fun a u h ne => ?_) upd_same hd0 hm0 ?_ ?_ (sa_all (hA' _))
  · rw [upd_ne ne, upd_ne (ne_of_none h hm0), upd_ne ne, upd_ne ne, upd_ne (ne_of_none h hd0), upd_ne ne]
    exact h
  · rw [upd_ne od.symm, upd_ne dm, upd_ne od.symm, upd_ne od.symm, upd_same]
  · rw [upd_ne om.symm, upd_same]
end
end Mw

set_option maxHeartbeats 1000000
namespace Mw
open PySem L2
/-! ### lists and tuples stay -/
def LtK (H H' : Hp) : Prop := ∀ b, (∀ xs, H b = some (.lst xs) → H' b = some (.lst xs)) ∧ ∀ xs, H b = some (.tup xs) → H' b = some (.tup xs)
theorem LtK.ext {H H' : Hp} (s : ExtN H H') : LtK H H' := fun b => ⟨fun _ h => s _ _ h fun ps z => (by cases z), fun _ h => s _ _ h fun ps z => (by cases z)⟩
theorem LtK.trans {H H1 H2 : Hp} (a : LtK H H1) (b : LtK H1 H2) : LtK H H2 := fun p => ⟨fun _ h => (b p).1 _ ((a p).1 _ h), fun _ h => (b p).2 _ ((a p).2 _ h)⟩
theorem LtK.dict {H : Hp} {d : Addr} {kvs : List (L2.Key × V)} (h : H d = some (.dK kvs)) (o : HO) : LtK H (upd H d o) := fun b => by
  refine ⟨fun xs e => ?_, fun xs e => ?_⟩ <;> (rw [upd_ne (by rintro rfl; rw [h] at e; cases e)]; exact e)
theorem LtK.ins {H : Hp} {d C dx : Addr} {fs : List (Str × V)} (h : H d = some (.ins C dx fs)) (o : HO) : LtK H (upd H d o) := fun b => by
  refine ⟨fun xs e => ?_, fun xs e => ?_⟩ <;> (rw [upd_ne (by rintro rfl; rw [h] at e; cases e)]; exact e)
theorem Ls.lt {α : Type} {R : Hp → α → V → Prop} (m : ∀ {H H' : Hp}, LtK H H' → ∀ x v, R H x v → R H' x v) {H H' : Hp} (s : LtK H H') {xs : List α} {v : V} (h : Ls R H xs v) : Ls R H' xs v := by
  obtain ⟨r, vs, e, h1, h2, h3⟩ := h
  exact ⟨r, vs, e, (s _).1 _ h1, h2.mono (m s), h3⟩
theorem RgAt.lt {H H' : Hp} (s : LtK H H') (x : Rg) (v : V) (h : RgAt H x v) : RgAt H' x v := by
  obtain ⟨p, e, h1⟩ := h
  exact ⟨p, e, (s _).2 _ h1⟩
theorem RelAt.lt {H H' : Hp} (s : LtK H H') (x : Rel) (v : V) (h : RelAt H x v) : RelAt H' x v := by
  obtain ⟨p, q, e, h1, h2, h3⟩ := h
  exact ⟨p, q, e, (s _).2 _ h1, h2.lt RgAt.lt s, h3⟩
theorem RowAt.lt {H H' : Hp} (s : LtK H H') (x : List Rel) (v : V) (h : RowAt H x v) : RowAt H' x v := Ls.lt RelAt.lt s h
theorem ConAt.lt {H H' : Hp} (s : LtK H H') (x : List (List Rel)) (v : V) (h : ConAt H x v) : ConAt H' x v := Ls.lt RowAt.lt s h
theorem RuAt.lt {H H' : Hp} (s : LtK H H') (x : Rule) (v : V) (h : RuAt H x v) : RuAt H' x v := by
  obtain ⟨p, q, e, h1, h2⟩ := h
  exact ⟨p, q, e, (s _).2 _ h1, ConAt.lt s _ _ h2⟩
theorem RusAt.lt {H H' : Hp} (s : LtK H H') (x : List Rule) (v : V) (h : RusAt H x v) : RusAt H' x v := Ls.lt RuAt.lt s h
/-- all but the objects at o, d and the tables stay -/
def Fx (o d : Addr) (H H' : Hp) : Prop := ∀ b u, b ≠ o → b ≠ d → H b = some u → (∀ ps, u ≠ .tbl ps) → H' b = some u
theorem Fx.refl {o d : Addr} (H : Hp) : Fx o d H H := fun _ _ _ _ h _ => h
theorem Fx.trans {o d : Addr} {H H1 H2 : Hp} (a : Fx o d H H1) (b : Fx o d H1 H2) : Fx o d H H2 := fun c u n1 n2 h t => b c u n1 n2 (a c u n1 n2 h t) t
theorem Fx.ext {o d : Addr} {H H' : Hp} (s : ExtN H H') : Fx o d H H' := fun b u _ _ h t => s b u h t
theorem Fx.updO {o d : Addr} {H : Hp} (x : HO) : Fx o d H (upd H o x) := fun b u n1 _ h _ => by rw [upd_ne n1]; exact h
theorem Fx.updD {o d : Addr} {H : Hp} (x : HO) : Fx o d H (upd H d x) := fun b u _ n2 h _ => by rw [upd_ne n2]; exact h
/-- the object: i of the rules are settled -/
structure Cg (K : PySem.W.Frag) (C : Addr) (H : Hp) (o dx d m : Addr) (lv rv : V) (rs : List Rule) (i : Nat) (kvs : List (L2.Key × V)) (mvs : List (List L2.Key × V)) : Prop where
  o : H o = some (.ins C dx (cgF lv rv d m))
  ile : i ≤ rs.length
  f : H d = some (.dK kvs)
  e : EntS K H (sE (rs.take i) fun _ => true) kvs
  r : Sa K H rv (sR (rs.take i) fun _ => true)
  mm : H m = some (.dT mvs)
theorem Tabs.ins {T : List (Addr × Str)} {H : Hp} {d C dx : Addr} {fs : List (Str × V)} (t : Tabs T H) (h : H d = some (.ins C dx fs)) (x : HO) : Tabs T (upd H d x) := fun p hp => by
  obtain ⟨ps, h1, h2, h3⟩ := t p hp
  refine ⟨ps, ?_, h2, fun pos cv hc => ?_⟩
  · rw [upd_ne (by rintro rfl; rw [h] at h1; cases h1)]
    exact h1
  · obtain ⟨c, e1, e2⟩ := h3 pos cv hc
    refine ⟨c, e1, ?_⟩
    rw [upd_ne (by
      rintro rfl
      rw [h] at e2
      unfold LamX.CodeO at e2
      cases e2)]
    exact e2
theorem TupK.ins {H : Hp} {d C dx : Addr} {fs : List (Str × V)} (h : H d = some (.ins C dx fs)) (o : HO) : TupK H (upd H d o) := fun b => by
  refine ⟨fun xs e => ?_, fun ob c e => ?_⟩ <;> (rw [upd_ne (by rintro rfl; rw [h] at e; cases e)]; exact e)
theorem TupK.extN {H H' : Hp} (s : ExtN H H') : TupK H H' := fun b => ⟨fun _ h => s _ _ h fun ps z => (by cases z), fun _ _ h => s _ _ h fun ps z => (by cases z)⟩
/-- the language that the object holds -/
def LnA (H : Hp) (CL : Addr) (rs : List Rule) (lv : V) : Prop := ∃ o dx q, lv = .ref o ∧ H o = some (.ins CL dx [("rules", q)]) ∧ RusAt H rs q
theorem sE_take : ∀ (rs : List Rule) (i : Nat) (rest : Fn) (p : Str × Fn), p ∈ sE (rs.take i) rest → p ∈ sE rs rest
  | [], i, _, p, h => by rw [List.take_nil] at h; exact h
  | r :: rs, 0, _, p, h => by cases h
  | r :: rs, i + 1, rest, p, h => by
    rw [List.take_succ_cons] at h
    rcases List.mem_cons.mp h with h | h
    · exact List.mem_cons.mpr (.inl h)
    · exact List.mem_cons.mpr (.inr (sE_take rs i _ p h))
theorem Cg.ext {K : PySem.W.Frag} {C : Addr} {H H' : Hp} {o dx d m : Addr} {lv rv : V} {rs : List Rule} {i : Nat} {kvs : List (L2.Key × V)} {mvs : List (List L2.Key × V)} (s : ExtN H H') (c : Cg K C H o dx d m lv rv rs i kvs mvs) : Cg K C H' o dx d m lv rv rs i kvs mvs :=
  ⟨s _ _ c.o fun ps z => (by cases z), c.ile, s _ _ c.f fun ps z => (by cases z), c.e.mono fun _ _ h => h.ext s, c.r.ext s, s _ _ c.mm fun ps z => (by cases z)⟩
theorem in_strs {x : Str} {ns : List Str} (h : x ∈ ns) : inV (.str x) (ns.map V.str) = true := by
  unfold inV
  rw [List.any_eq_true]
  refine ⟨.str x, List.mem_map.mpr ⟨x, h, rfl⟩, ?_⟩
  show (x == x) = true
  simp
section
variable {P : Program} {w : World} {K : PySem.W.Frag} {mg : Str → Option Value} {base : Heap} {C CL : Addr}
/-! ### CategorySets.set_of -/
abbrev sGs : Stmt := mth (top 32) 1
abbrev nGs : List Str := ["self", "category", "ruled", "name", "_", "condition", "holds"]
theorem scGs : FnScope nGs ["self", "category"] (defScope sGs) := ⟨rfl, rfl, rfl, by decide +kernel, rfl, by decide +kernel, by decide +kernel⟩
def spGs (K : PySem.W.Frag) (C CL tp : Addr) : Sp := fun vs H Q _ => ∃ (o dx d m lo ldx : Addr) (rv lq : V) (rs : List Rule) (i : Nat) (kvs : List (L2.Key × V)) (mvs : List (List L2.Key × V)) (cat : Str), vs = [.ref o, .str cat] ∧ Cg K C H o dx d m (.ref lo) rv rs i kvs mvs ∧
  H lo = some (.ins CL ldx [("rules", lq)]) ∧ RusAt H rs lq ∧ LanOk rs ∧ cat ∈ rs.map (·.1) ∧ Tabs (tbs tp) H ∧
  ∀ v f H' rv' i' kvs', Fx o d H H' → Tabs (tbs tp) H' → Cg K C H' o dx d m (.ref lo) rv' rs i' kvs' mvs → Sa K H' v f → (cat, f) ∈ sE rs (fun _ => true) → Q v H'
theorem ok_gs {f fM fD fO tp : Addr} {fd fdM fdD fdO : FuncData} (F : Fun K "set_of" "CategorySets.set_of" sGs f fd) (R : CGC K C) (L : LC K CL)
    (GM : FnOk P w K mg base CX0 4 fM fdM ["one", "other"] (spCm K fun a b => a && b)) (bM : Binds K fdM ["one", "other"] []) (kM : PySem.W.keepIn K (.ref fM) = true) (mM : mg "common" = some (.ref fM))
    (GD : FnOk P w K mg base CX0 5 fD fdD ["one", "other"] (spCm K fun a b => a && !b)) (bD : Binds K fdD ["one", "other"] []) (kD : PySem.W.keepIn K (.ref fD) = true) (mD : mg "difference" = some (.ref fD))
    (GO : FnOk P w K mg base CX0 6 fO fdO ["condition"] (spCo K tp)) (bO : Binds K fdO ["condition"] []) (kO : PySem.W.keepIn K (.ref fO) = true) (mO : mg "condition_set" = some (.ref fO))
    (hN : KP K mg "NONE" ([], [false])) (ml : mg "len" = none) :
    FnOk P w K mg base CX0 7 f fd ["self", "category"] (spGs K C CL tp) := by
  refine F.ok scGs (fun vs H Q E h => ?_) (fun cdv A outer s H vs Q E hr h => ?_)
  · obtain ⟨o, dx, d, m, lo, ldx, rv, lq, rs, i, kvs, mvs, cat, rfl, _⟩ := h
    rfl
  obtain ⟨o, dx, d, m, lo, ldx, rv, lq, rs, i, kvs, mvs, cat, rfl, cg, hlo, hrs, hok, hcat, hT, q⟩ := h
  obtain ⟨an, mA, hA'⟩ := hN
  have nd := scGs.nd
  have hu : (cxOf CX0 P w K mg base nGs "CategorySets.set_of" (defScope sGs) f cdv A outer s H E).nox.A.units + 1 < cLine := by
    have := hr.un
    show (A.deeper _).units + 1 < cLine
    omega
  refine ⟨_, (pss_cons (ps_setLc (i := 2) (own := [("name", 3), ("_", 4)]) (g := gTup K 2 (gCons (gName 3) (gCons (gName 4) gNil))) (tt := tYes) (te := tVar 3) rfl nd rfl rfl (sw_true rfl rfl rfl (by decide +kernel)) (pi_list (pe_fld (pe_fld (pv 0) rfl) rfl)) (blkOk_by (N := nGs) (sc := defScope sGs) (by decide +kernel))
        (fun _ _ _ _ _ => pg_tup rfl (pgs_cons (pg_name (i := 3) nd rfl (.inl rfl)) (pgs_cons (pg_name (i := 4) nd rfl (.inl rfl)) pgs_nil))) (fun _ _ _ _ _ => pts_nil) (fun _ _ _ _ _ => pv 3))
    (pss_cons (ps_while PassesOwn.never (PW.pt (pw_and (pt_cmpR op_in_seq (pv 1) (pv 2) (by rfl)) (pw_and1 (pt_cmp (pc_dnotin hu (pv 1) (pe_fld (pv 0) rfl))))))
      (pss_cons (ps_asg (pe_ix ix_list (pe_fld (pe_fld (pv 0) rfl) rfl) (pe_callB call_lenD (by rfl) ml PySem.boot_len (pa_cons (pe_fld (pv 0) rfl) pa_nil)) (fun _ _ => rfl)) (pg_tup rfl (pgs_cons (pg_name (i := 3) nd rfl (.inl rfl)) (pgs_cons (pg_name (i := 5) nd rfl (.inl rfl)) pgs_nil))))
      (pss_cons (ps_set (i := 6) nd rfl (.inl rfl) (pe_call GO hr rfl mO kO bO .nil pass0 (pa_cons (pv 5) pa_nil)))
      (pss_cons (ps_dput hu (pe_fld (pv 0) rfl) (pv 3) (pe_call GM (hr.mono (by decide)) rfl mM kM bM .nil pass0 (pa_cons (pe_fld (pv 0) rfl) (pa_cons (pv 6) pa_nil))) rfl)
      (pss_one (ps_fld (pv 0) (pe_call GD (hr.mono (by decide)) rfl mD kD bD .nil pass0 (pa_cons (pe_fld (pv 0) rfl) (pa_cons (pv 6) pa_nil))) rfl))))))
    (pss_one (ps_ret (pe_dget2 hu (pe_fld (pv 0) rfl) (pv 1) (pe_glob rfl mA (v := .ref an) rfl) ⟨rfl, rfl, rfl, rfl⟩))))), ?_⟩
  obtain ⟨r, rvs, rfl, hr1, ha, hl⟩ := hrs
  have hrl := ha.length
  refine ⟨_, rfl, o, C, dx, _, .ref lo, rfl, cg.o, R.c, R.n1, rfl, lo, CL, ldx, _, .ref r, rfl, hlo, L.c, L.nr, rfl, r, rfl, ⟨_, SqL.of hr1⟩, fun D hD => ?_⟩
  refine lc_list (xs := rvs) (fun j H' => Same H H' ∧ H' D = some (.lst (((rs.take j).map (·.1)).map V.str))) ⟨same_new hD _, upd_same⟩ (fun j H' _ ⟨s', _⟩ => SqL.of (s' _ _ hr1)) ?_ ?_
  · rintro j y H' hy ⟨s', hD'⟩
    obtain ⟨⟨ct, con⟩, hz, p, cv, rfl, hp, _⟩ := A2.get ha hy
    have hi := get_lt hz
    refine ⟨p, _, rfl, .inl (.inl (s' _ _ hp)), rfl, .str ct, _, rfl, cv, [], rfl, rfl, rfl, ?_⟩
    refine ⟨_, rfl, _, hD', sz_line (by rw [List.length_map, List.length_map, List.length_take]; omega), same_mut s' hD _, ?_⟩
    rw [upd_same, take_map (fun r : Rule => r.1) hz, List.map_append]
    rfl
  rintro H1 ⟨s1, hD1⟩
  rw [hrl, List.take_length] at hD1
  obtain ⟨nN, nO⟩ := names_ok hok
  have oD : D ≠ o := (ne_of_none cg.o hD).symm
  have dD : D ≠ d := (ne_of_none cg.f hD).symm
  have od : o ≠ d := by
    rintro rfl
    have := cg.f
    rw [cg.o] at this
    cases this
  have om : m ≠ o := by
    rintro rfl
    have := cg.mm
    rw [cg.o] at this
    cases this
  have md : m ≠ d := by
    rintro rfl
    have := cg.mm
    rw [cg.f] at this
    cases this
  have cg1 : Cg K C H1 o dx d m (.ref lo) rv rs i kvs mvs := ⟨s1 _ _ cg.o, cg.ile, s1 _ _ cg.f, cg.e.mono fun _ _ h => h.same s1, cg.r.same s1, s1 _ _ cg.mm⟩
  have loo : lo ≠ o := by
    rintro rfl
    rw [cg.o] at hlo
    injection hlo with hlo
    injection hlo with _ _ hlo
    have := congrArg List.length hlo
    simp [cgF] at this
  have lod : lo ≠ d := by
    rintro rfl
    rw [cg.f] at hlo
    cases hlo
  let J : Nat → L2.St → Hp → Prop := fun n σ H' => ∃ (rv' : V) (kvs' : List (L2.Key × V)) (i' : Nat) (o3 o5 o6 : Option V), σ = [some (.ref o), some (.str cat), some (.ref D), o3, none, o5, o6] ∧ Fx o d H H' ∧ LtK H H' ∧ Tabs (tbs tp) H' ∧ Cg K C H' o dx d m (.ref lo) rv' rs i' kvs' mvs ∧ H' D = some (.lst ((rs.map (·.1)).map V.str)) ∧ n = rs.length - i'
  refine ⟨J, ⟨rs.length - i, rv, kvs, i, none, none, none, rfl, Fx.ext (Same.extN s1), LtK.ext (Same.extN s1), Tabs.same hT s1, cg1, hD1, rfl⟩, ?_⟩
  rintro n σ H' ⟨rv', kvs', i', o3, o5, o6, rfl, fx, lk, T', cg', hD', rfl⟩
  have hks := cg'.e.keys
  rw [sE_keys] at hks
  have hkl : kvs'.length = (rs.take i').length := by
    have := congrArg List.length hks
    simpa using this
  have hill := cg'.ile
  rw [List.length_take] at hkl
  refine ⟨_, rfl, _, rfl, D, _, rfl, .inl (SqL.of hD'), rfl, ?_, _, rfl, ?_⟩
  · rw [List.all_map]
    exact List.all_eq_true.mpr fun _ _ => rfl
  rw [in_strs hcat]
  refine iteT ⟨_, rfl, _, rfl, o, C, dx, _, .ref d, rfl, cg'.o, R.c, R.n2, rfl, d, _, rfl, DGet.k (k := Sum.inr cat) cg'.f, _, rfl, ?_⟩
  cases hv : valV kvs' (Sum.inr cat) with
  | some v =>
    refine iteF ?_
    have hin : cat ∈ (sE (rs.take i') fun _ => true).map (·.1) := by
      rw [sE_keys]
      by_cases z : cat ∈ (rs.take i').map (·.1)
      · exact z
      · have : valV kvs' (Sum.inr cat) = none := by
          cases h : valV kvs' (Sum.inr cat) with
          | none => rfl
          | some u =>
            have a : (kvs'.any fun kv => decide (kv.1 = Sum.inr cat)) = true := by rw [valV_any, h]; rfl
            obtain ⟨pr, hp, e⟩ := List.any_eq_true.mp a
            have e := of_decide_eq_true e
            have hm : pr.1 ∈ kvs'.map (·.1) := List.mem_map.mpr ⟨pr, hp, rfl⟩
            rw [hks, e] at hm
            obtain ⟨k, hk, ek⟩ := List.mem_map.mp hm
            exact absurd (Sum.inr.inj ek ▸ hk) z
        rw [hv] at this
        cases this
    obtain ⟨v', g, hv', hsv, hg⟩ := cg'.e.get hin
    have ev : v = v' := by
      rw [hv] at hv'
      exact Option.some.inj hv'
    subst ev
    refine ⟨_, rfl, o, C, dx, _, .ref d, rfl, cg'.o, R.c, R.n2, rfl, d, rfl, .inl ⟨_, .inl cg'.f⟩, _, rfl, some v, ?_, q v g H' rv' i' kvs' fx T' cg' hsv (sE_take _ _ _ _ hg)⟩
    rw [← hv]
    exact DGet.k (k := Sum.inr cat) cg'.f
  | none =>
    have hlt : i' < rs.length := by
      by_cases z : i' < rs.length
      · exact z
      · have hin : cat ∈ (sE (rs.take i') fun _ => true).map (·.1) := by
          rw [sE_keys, List.take_of_length_le (by omega)]
          exact hcat
        obtain ⟨v', g, hv', _, _⟩ := cg'.e.get hin
        rw [hv] at hv'
        cases hv'
    have hki : kvs'.length = i' := by omega
    refine iteT ⟨J (rs.length - i' - 1), fun σ' H'' h => ⟨_, by omega, h⟩, ?_⟩
    obtain ⟨y, hy⟩ : ∃ y, rvs[i']? = some y := ⟨rvs[i']'(by omega), List.getElem?_eq_getElem _⟩
    obtain ⟨⟨ct, con⟩, hz, p, cv, rfl, hp, hcon⟩ := A2.get ha hy
    have hts : rs.take (i' + 1) = rs.take i' ++ [(ct, con)] := by
      rw [List.take_succ, hz]
      rfl
    have hlo' := fx lo _ loo lod hlo (fun ps z => by cases z)
    refine ⟨_, rfl, o, C, dx, _, .ref lo, rfl, cg'.o, R.c, R.n1, rfl, lo, CL, ldx, _, .ref r, rfl, hlo', L.c, L.nr, rfl, _, rfl, o, C, dx, _, .ref d, rfl, cg'.o, R.c, R.n2, rfl, d, kvs', rfl, cg'.f, r, _, _, .ref p, rfl, rfl, SqL.of ((lk r).1 _ hr1), atI_nat (j := kvs'.length) (by rw [hki]; exact hy), p, _, rfl, .inl (.inl ((lk p).2 _ hp)), rfl, .str ct, _, rfl, cv, [], rfl, rfl, ?_⟩
    refine ⟨_, rfl, cv, con, rfl, ConAt.lt lk _ _ hcon, hok.2 _ (List.mem_of_getElem? hz), T', fun w2 H3 e3 T3 hw => ?_⟩
    have cg3 := cg'.ext e3
    refine ⟨_, rfl, o, C, dx, _, rv', rfl, cg3.o, R.c, R.n3, rfl, _, rfl, ?_⟩
    refine cm_of (E := E0) (op := fun a b => a && b) cg3.r hw fun w4 H4 s4 h4 => ?_
    have cg4 := cg3.ext (Same.extN s4)
    have hnew : ct ∉ (rs.take i').map (·.1) := fun hm => by
      have n2 : ((rs.take (i' + 1)).map (·.1)).Nodup := nN.sublist ((List.take_sublist _ _).map _)
      rw [hts, List.map_append, List.nodup_append] at n2
      exact n2.2.2 ct hm ct (by simp) rfl
    have hput := put_new (n := ct) w4 hks hnew
    refine ⟨_, rfl, o, C, dx, _, .ref d, rfl, cg4.o, R.c, R.n2, rfl, _, rfl, d, _, rfl, DPut.k (k := Sum.inr ct) cg4.f (sz_line (by omega)), ?_⟩
    rw [hput]
    have T4 := Tabs.same T3 s4
    have k5 : TupK H4 (upd H4 d (.dK (kvs' ++ [(Sum.inr ct, w4)]))) := TupK.put cg4.f _
    have lk5 : LtK H4 (upd H4 d (.dK (kvs' ++ [(Sum.inr ct, w4)]))) := LtK.dict cg4.f _
    have T5 : Tabs (tbs tp) (upd H4 d (.dK (kvs' ++ [(Sum.inr ct, w4)]))) := Tabs.mut T4 cg4.f
    have fx5 : Fx o d H4 (upd H4 d (.dK (kvs' ++ [(Sum.inr ct, w4)]))) := Fx.updD _
    have o5 : upd H4 d (.dK (kvs' ++ [(Sum.inr ct, w4)])) o = some (.ins C dx (cgF (.ref lo) rv' d m)) := by rw [upd_ne od]; exact cg4.o
    have d5 : upd H4 d (.dK (kvs' ++ [(Sum.inr ct, w4)])) d = some (.dK (kvs' ++ [(Sum.inr ct, w4)])) := upd_same
    have m5 : upd H4 d (.dK (kvs' ++ [(Sum.inr ct, w4)])) m = some (.dT mvs) := by rw [upd_ne md]; exact cg4.mm
    have D5 : upd H4 d (.dK (kvs' ++ [(Sum.inr ct, w4)])) D = some (.lst ((rs.map (·.1)).map V.str)) := by rw [upd_ne dD]; exact s4 _ _ (e3 _ _ hD' fun ps z => (by cases z))
    have w5 := h4.tk k5
    have e5 : EntS K (upd H4 d (.dK (kvs' ++ [(Sum.inr ct, w4)]))) (sE (rs.take (i' + 1)) fun _ => true) (kvs' ++ [(Sum.inr ct, w4)]) := by
      rw [hts, sE_snoc]
      exact EntS.snoc w5 (cg4.e.mono fun _ _ h => h.tk k5)
    have r5 := cg4.r.tk k5
    have hw5 := (hw.same s4).tk k5
    have fx45 := (fx.trans (Fx.ext (LamX.ExtN.trans e3 (Same.extN s4)))).trans fx5
    have lk45 := (lk.trans (LtK.ext (LamX.ExtN.trans e3 (Same.extN s4)))).trans lk5
    generalize upd H4 d (.dK (kvs' ++ [(Sum.inr ct, w4)])) = H5 at T5 o5 d5 m5 D5 e5 r5 hw5 fx45 lk45
    refine ⟨_, rfl, o, C, dx, _, rv', rfl, o5, R.c, R.n3, rfl, _, rfl, ?_⟩
    refine cm_of (E := E0) (op := fun a b => a && !b) r5 hw5 fun w6 H6 s6 h6 => ?_
    refine ⟨_, rfl, o, C, dx, _, rfl, s6 _ _ o5, R.c, R.n3, by show 4 < 1000; decide, ?_⟩
    have k7 : TupK H6 (upd H6 o (.ins C dx (cgF (.ref lo) w6 d m))) := TupK.ins (s6 _ _ o5) _
    refine ⟨w6, kvs' ++ [(Sum.inr ct, w4)], i' + 1, _, _, _, rfl, (fx45.trans (Fx.ext (Same.extN s6))).trans (Fx.updO _), (lk45.trans (LtK.ext (Same.extN s6))).trans (LtK.ins (s6 _ _ o5) _), Tabs.ins (Tabs.same T5 s6) (s6 _ _ o5) _, ⟨upd_same, by omega, ?_, e5.mono fun _ _ h => (h.same s6).tk k7, ?_, ?_⟩, ?_, by omega⟩
    · rw [upd_ne od.symm]
      exact s6 _ _ d5
    · rw [hts, sR_snoc]
      exact h6.tk k7
    · rw [upd_ne om]
      exact s6 _ _ m5
    · rw [upd_ne oD]
      exact s6 _ _ D5
end
end Mw

set_option maxHeartbeats 1000000
namespace Mw
open PySem L2
theorem Sb.tk {K : PySem.W.Frag} {H H' : Hp} {v : V} {f : Fn} (k : TupK H H') (h : Sb K H v f) : Sb K H' v f := by
  have hT : ∀ {v : V} {bs : BL}, TA K H v bs → TA K H' v bs := fun {v bs} h => by
    obtain ⟨p, e, h1, h2⟩ := h
    exact ⟨p, e, SqT.tk k h1, h2.elim (fun ⟨ob, e1, e2⟩ => .inl ⟨ob, (k p).2 _ _ e1, e2⟩) .inr⟩
  obtain ⟨z, ⟨p, a, b, e, h1, h2, h3⟩, hd⟩ := h
  exact ⟨z, ⟨p, a, b, e, SqT.tk k h1, hT h2, hT h3⟩, hd⟩
theorem TupK.fx {H H' : Hp} {o d C dx : Addr} {fs : List (Str × V)} {kvs : List (L2.Key × V)} (s : Fx o d H H') (ho : H o = some (.ins C dx fs)) (hd : H d = some (.dK kvs)) : TupK H H' := fun b => by
  refine ⟨fun xs e => s b _ ?_ ?_ e fun ps z => (by cases z), fun ob c e => s b _ ?_ ?_ e fun ps z => (by cases z)⟩
  · rintro rfl; rw [ho] at e; cases e
  · rintro rfl; rw [hd] at e; cases e
  · rintro rfl; rw [ho] at e; cases e
  · rintro rfl; rw [hd] at e; cases e
theorem TupK.dT {H : Hp} {d : Addr} {kvs : List (List L2.Key × V)} (h : H d = some (.dT kvs)) (o : HO) : TupK H (upd H d o) := fun b => by
  refine ⟨fun xs e => ?_, fun ob c e => ?_⟩ <;> (rw [upd_ne (by rintro rfl; rw [h] at e; cases e)]; exact e)
theorem Tabs.dT {T : List (Addr × Str)} {H : Hp} {d : Addr} {kvs : List (List L2.Key × V)} (t : Tabs T H) (h : H d = some (.dT kvs)) (x : HO) : Tabs T (upd H d x) := fun p hp => by
  obtain ⟨ps, h1, h2, h3⟩ := t p hp
  refine ⟨ps, ?_, h2, fun pos cv hc => ?_⟩
  · rw [upd_ne (by rintro rfl; rw [h] at h1; cases h1)]
    exact h1
  · obtain ⟨c, e1, e2⟩ := h3 pos cv hc
    refine ⟨c, e1, ?_⟩
    rw [upd_ne (by
      rintro rfl
      rw [h] at e2
      unfold LamX.CodeO at e2
      cases e2)]
    exact e2
/-- what has been moved -/
def mKey (cat : Str) (off : Nat) : List L2.Key := [Sum.inr cat, Sum.inl (off : Int)]
def Mv (K : PySem.W.Frag) (H : Hp) (rs : List Rule) (mvs : List (List L2.Key × V)) : Prop := ∀ cat off v, valV mvs (mKey cat off) = some v → ∃ f, (cat, f) ∈ sE rs (fun _ => true) ∧ Sb K H v (mvF f off)
theorem Mv.tk {K : PySem.W.Frag} {H H' : Hp} {rs : List Rule} {mvs : List (List L2.Key × V)} (k : TupK H H') (h : Mv K H rs mvs) : Mv K H' rs mvs := fun cat off v e => by
  obtain ⟨f, h1, h2⟩ := h cat off v e
  exact ⟨f, h1, h2.tk k⟩
theorem valV_new {mvs : List (List L2.Key × V)} {k k' : List L2.Key} {v : V} (h : valV mvs k = none) : valV (putK mvs k v) k' = if k' = k then some v else valV mvs k' := by
  have a : (mvs.any fun kv => decide (kv.1 = k)) = false := by rw [valV_any, h]; rfl
  unfold putK
  rw [a, if_neg Bool.false_ne_true]
  unfold valV at h ⊢
  rw [List.find?_append]
  by_cases e : k' = k
  · subst e
    rw [if_pos rfl]
    have : mvs.find? (fun kv => decide (kv.1 = k')) = none := by
      cases z : mvs.find? (fun kv => decide (kv.1 = k')) with
      | none => rfl
      | some p => rw [z] at h; cases h
    rw [this]
    simp
  · rw [if_neg e]
    cases z : mvs.find? (fun kv => decide (kv.1 = k')) with
    | none =>
      have : ¬ k = k' := fun w => e w.symm
      simp [this]
    | some p => simp
/-- all but the objects at o, d, m and the tables stay -/
def Fx3 (o d m : Addr) (H H' : Hp) : Prop := ∀ b u, b ≠ o → b ≠ d → b ≠ m → H b = some u → (∀ ps, u ≠ .tbl ps) → H' b = some u
theorem Fx3.of {o d m : Addr} {H H' : Hp} (s : Fx o d H H') : Fx3 o d m H H' := fun b u n1 n2 _ h t => s b u n1 n2 h t
theorem Fx3.ext {o d m : Addr} {H H' : Hp} (s : ExtN H H') : Fx3 o d m H H' := fun b u _ _ _ h t => s b u h t
theorem Fx3.trans {o d m : Addr} {H H1 H2 : Hp} (a : Fx3 o d m H H1) (b : Fx3 o d m H1 H2) : Fx3 o d m H H2 := fun c u n1 n2 n3 h t => b c u n1 n2 n3 (a c u n1 n2 n3 h t) t
theorem Fx3.updM {o d m : Addr} {H : Hp} (x : HO) : Fx3 o d m H (upd H m x) := fun b u _ _ n h _ => by rw [upd_ne n]; exact h
section
variable {P : Program} {w : World} {K : PySem.W.Frag} {mg : Str → Option Value} {base : Heap} {C CL : Addr}
/-! ### CategorySets.arguments_of -/
abbrev sGa : Stmt := mth (top 32) 2
abbrev nGa : List Str := ["self", "category", "offset"]
theorem scGa : FnScope nGa ["self", "category", "offset"] (defScope sGa) := ⟨rfl, rfl, rfl, by decide +kernel, rfl, by decide +kernel, by decide +kernel⟩
def spGa (K : PySem.W.Frag) (C CL tp : Addr) : Sp := fun vs H Q _ => ∃ (o dx d m lo ldx : Addr) (rv lq : V) (rs : List Rule) (i : Nat) (kvs : List (L2.Key × V)) (mvs : List (List L2.Key × V)) (cat : Str) (off : Nat), vs = [.ref o, .str cat, nV off] ∧ Cg K C H o dx d m (.ref lo) rv rs i kvs mvs ∧ Mv K H rs mvs ∧ mvs.length < 1000000 ∧
  H lo = some (.ins CL ldx [("rules", lq)]) ∧ RusAt H rs lq ∧ LanOk rs ∧ cat ∈ rs.map (·.1) ∧ off ≤ 9 ∧ Tabs (tbs tp) H ∧
  ∀ v f H' rv' i' kvs' mvs', Fx3 o d m H H' → Tabs (tbs tp) H' → Cg K C H' o dx d m (.ref lo) rv' rs i' kvs' mvs' → Mv K H' rs mvs' → mvs'.length ≤ mvs.length + 1 → Sb K H' v (mvF f off) → (cat, f) ∈ sE rs (fun _ => true) → Q v H'
theorem ok_ga {f fS fV tp : Addr} {fd fdS fdV : FuncData} (F : Fun K "arguments_of" "CategorySets.arguments_of" sGa f fd) (R : CGC K C)
    (GS : FnOk P w K mg base CX0 7 fS fdS ["self", "category"] (spGs K C CL tp)) (bS : Binds K fdS ["self", "category"] []) (mS : Meth K C "set_of" fS)
    (GV : FnOk P w K mg base CX0 4 fV fdV ["one", "offset"] (spMv K)) (bV : Binds K fdV ["one", "offset"] []) (kV' : PySem.W.keepIn K (.ref fV) = true) (mV : mg "moved" = some (.ref fV)) :
    FnOk P w K mg base CX0 8 f fd ["self", "category", "offset"] (spGa K C CL tp) := by
  refine F.ok scGa (fun vs H Q E h => ?_) (fun cdv A outer s H vs Q E hr h => ?_)
  · obtain ⟨o, dx, d, m, lo, ldx, rv, lq, rs, i, kvs, mvs, cat, off, rfl, _⟩ := h
    rfl
  obtain ⟨o, dx, d, m, lo, ldx, rv, lq, rs, i, kvs, mvs, cat, off, rfl, cg, hmv, hml, hlo, hrs, hok, hcat, hoff, hT, q⟩ := h
  have nd := scGa.nd
  have hu : (cxOf CX0 P w K mg base nGa "CategorySets.arguments_of" (defScope sGa) f cdv A outer s H E).nox.A.units + 1 < cLine := by
    have := hr.un
    show (A.deeper _).units + 1 < cLine
    omega
  refine ⟨_, (pss_cons (ps_if (pt_cmp (pc_dnotin hu (pe_tup (pa_cons (pv 1) (pa_cons (pv 2) pa_nil))) (pe_fld (pv 0) rfl)))
      (pss_one (ps_dput hu (pe_fld (pv 0) rfl) (pe_tup (pa_cons (pv 1) (pa_cons (pv 2) pa_nil))) (pe_call GV (hr.mono (by decide)) rfl mV kV' bV .nil pass0 (pa_cons (pe_meth (pv 0) R.c mS GS hr bS .nil pass0 (pa_cons (pv 1) pa_nil)) (pa_cons (pv 2) pa_nil))) rfl)) pss_nil)
    (pss_one (ps_ret (pe_dget hu (pe_fld (pv 0) rfl) (pe_tup (pa_cons (pv 1) (pa_cons (pv 2) pa_nil))) (fun _ _ => rfl))))), ?_⟩
  refine ⟨_, rfl, _, rfl, by show 2 ≤ sizeLine; decide, fun t1 h1 => ?_⟩
  have s1 : Same H (upd H t1 (.tup [.str cat, nV off])) := same_new h1 _
  have hk1 : upd H t1 (.tup [.str cat, nV off]) t1 = some (.tup ((mKey cat off).map kV)) := upd_same
  generalize upd H t1 (.tup [.str cat, nV off]) = H1 at s1 hk1
  have cg1 := cg.ext (Same.extN s1)
  have hmv1 := hmv.tk (TupK.same s1)
  refine ⟨_, rfl, o, C, dx, _, .ref m, rfl, cg1.o, R.c, R.n4, rfl, m, _, rfl, DGet.t cg1.mm hk1, _, rfl, ?_⟩
  have fin : ∀ (H' : Hp) (rv' : V) (i' : Nat) (kvs' : List (L2.Key × V)) (mvs' : List (List L2.Key × V)) (v : V) (g : Fn), Fx3 o d m H H' → Tabs (tbs tp) H' → Cg K C H' o dx d m (.ref lo) rv' rs i' kvs' mvs' → Mv K H' rs mvs' → mvs'.length ≤ mvs.length + 1 → valV mvs' (mKey cat off) = some v → (cat, g) ∈ sE rs (fun _ => true) → Sb K H' v (mvF g off) →
      tRet (tDGet (tFld K (tVar 0) "moved_on") (tTup (tCons (tVar 1) (tCons (tVar 2) tNil)))) { nx := fun _ H' => Q V.non H', rt := Q } [some (.ref o), some (.str cat), some (nV off)] H' := by
    intro H' rv' i' kvs' mvs' v g fx T' cg' hmv' hl' hv hg hsb
    refine ⟨_, rfl, o, C, dx, _, .ref m, rfl, cg'.o, R.c, R.n4, rfl, _, rfl, _, rfl, by show 2 ≤ sizeLine; decide, fun t2 h2 => ?_⟩
    have s2 : Same H' (upd H' t2 (.tup [.str cat, nV off])) := same_new h2 _
    have hk2 : upd H' t2 (.tup [.str cat, nV off]) t2 = some (.tup ((mKey cat off).map kV)) := upd_same
    refine ⟨m, v, rfl, by rw [← hv]; exact DGet.t (s2 _ _ cg'.mm) hk2, ?_⟩
    exact q v g _ rv' i' kvs' mvs' (fx.trans (Fx3.ext (Same.extN s2))) (Tabs.same T' s2) (cg'.ext (Same.extN s2)) (hmv'.tk (TupK.same s2)) hl' (hsb.same s2) hg
  cases hv : valV mvs (mKey cat off) with
  | some v =>
    obtain ⟨g, hg, hsb⟩ := hmv1 cat off v hv
    exact iteF (fin H1 rv i kvs mvs v g (Fx3.ext (Same.extN s1)) (Tabs.same hT s1) cg1 hmv1 (by omega) hv hg hsb)
  | none =>
    refine iteT ⟨_, rfl, o, dx, _, rfl, cg1.o, rfl, _, rfl, o, dx, d, m, lo, ldx, rv, lq, rs, i, kvs, mvs, cat, rfl, cg1, s1 _ _ hlo, hrs.same s1, hok, hcat, Tabs.same hT s1, fun v g H2 rv' i' kvs' fx2 T2 cg2 hsv hg => ?_⟩
    have k2 : TupK H1 H2 := TupK.fx fx2 cg1.o cg1.f
    refine ⟨_, rfl, v, g, off, rfl, hsv, hoff, fun v2 H3 s3 hv2 => ?_⟩
    have cg3 := cg2.ext (Same.extN s3)
    refine ⟨_, rfl, o, C, dx, _, .ref m, rfl, cg3.o, R.c, R.n4, rfl, _, rfl, _, rfl, by show 2 ≤ sizeLine; decide, fun t2 h2 => ?_⟩
    have s4 : Same H3 (upd H3 t2 (.tup [.str cat, nV off])) := same_new h2 _
    have hk2 : upd H3 t2 (.tup [.str cat, nV off]) t2 = some (.tup ((mKey cat off).map kV)) := upd_same
    generalize upd H3 t2 (.tup [.str cat, nV off]) = H4 at s4 hk2
    have cg4 := cg3.ext (Same.extN s4)
    refine ⟨m, _, rfl, DPut.t cg4.mm hk2 (sz_line (by omega)), ?_⟩
    have k4 : TupK H4 (upd H4 m (.dT (putK mvs (mKey cat off) v2))) := TupK.dT cg4.mm _
    have mo : o ≠ m := by
      rintro rfl
      have := cg.mm
      rw [cg.o] at this
      cases this
    have md : d ≠ m := by
      rintro rfl
      have := cg.mm
      rw [cg.f] at this
      cases this
    have hsb2 : Sb K (upd H4 m (.dT (putK mvs (mKey cat off) v2))) v2 (mvF g off) := (hv2.same s4).tk k4
    refine fin _ rv' i' kvs' (putK mvs (mKey cat off) v2) v2 g (((((Fx3.ext (Same.extN s1)).trans (Fx3.of fx2)).trans (Fx3.ext (Same.extN (s3.trans s4)))).trans (Fx3.updM _))) (Tabs.dT (Tabs.same T2 (s3.trans s4)) cg4.mm _) ⟨by rw [upd_ne mo]; exact cg4.o, cg4.ile, by rw [upd_ne md]; exact cg4.f, cg4.e.mono fun _ _ h => h.tk k4, cg4.r.tk k4, upd_same⟩ ?_ ?_ ?_ hg hsb2
    · intro cat' off' u hu
      rw [valV_new hv] at hu
      by_cases e : mKey cat' off' = mKey cat off
      · rw [if_pos e] at hu
        cases hu
        unfold mKey at e
        injection e with e1 e2
        injection e2 with e2 _
        have e1 := Sum.inr.inj e1
        have e2 := Sum.inl.inj e2
        have e2 : off' = off := by omega
        subst e1 e2
        exact ⟨g, hg, hsb2⟩
      · rw [if_neg e] at hu
        obtain ⟨g', h1, h2⟩ := hmv1 cat' off' u hu
        exact ⟨g', h1, ((h2.tk k2).same (s3.trans s4)).tk k4⟩
    · unfold putK
      split
      · rw [List.length_map]
        omega
      · rw [List.length_append]
        exact Nat.le_refl _
    · rw [valV_new hv, if_pos rfl]
end
end Mw

set_option maxHeartbeats 1000000
namespace Mw
open PySem L2
/-- the ints among some keys -/
def iks (ks : List V) : List Nat := ks.filterMap fun k => match k with
  | .int i => some i.toNat
  | _ => none
def KOk (ks : List V) : Prop := ∀ k ∈ ks, (∃ s, k = .str s) ∨ ∃ i : Int, k = .int i ∧ 0 ≤ i ∧ i ≤ 20
theorem iks_le {ks : List V} (h : KOk ks) : ∀ n ∈ iks ks, n ≤ 20 := fun n hn => by
  obtain ⟨k, hk, e⟩ := List.mem_filterMap.mp hn
  rcases h k hk with ⟨s, rfl⟩ | ⟨i, rfl, h0, h1⟩
  · cases e
  · have e : i.toNat = n := Option.some.inj e
    omega
/-- a category is left out -/
def LeftIs (rs : List Rule) (off : Nat) (ks : List V) (b : Str → Bool) : Prop := ∀ c f, (c, f) ∈ sE rs (fun _ => true) → (b c = true ↔ inV (.str c) (ks ++ [.str "other"]) = false ∧ ∃ n, mvF f off n = true ∧ n ∉ iks ks)
theorem one_of : ∀ {l : Ens} {c : Str} {f g : Fn}, (l.map (·.1)).Nodup → (c, f) ∈ l → (c, g) ∈ l → f = g
  | [], _, _, _, _, h, _ => by cases h
  | p :: l, c, f, g, nd, h1, h2 => by
    rw [List.map_cons, List.nodup_cons] at nd
    rcases List.mem_cons.mp h1 with e1 | m1
    · rcases List.mem_cons.mp h2 with e2 | m2
      · exact congrArg Prod.snd (e1.trans e2.symm)
      · have := congrArg Prod.fst e1
        exact absurd (List.mem_map.mpr ⟨(c, g), m2, this⟩) nd.1
    · rcases List.mem_cons.mp h2 with e2 | m2
      · have := congrArg Prod.fst e2
        exact absurd (List.mem_map.mpr ⟨(c, f), m1, this⟩) nd.1
      · exact one_of nd.2 m1 m2
theorem sE_one {rs : List Rule} (h : LanOk rs) {c : Str} {f g : Fn} (h1 : (c, f) ∈ sE rs fun _ => true) (h2 : (c, g) ∈ sE rs fun _ => true) : f = g :=
  one_of (by rw [sE_keys]; exact (names_ok h).1) h1 h2
theorem Tabs.lst {T : List (Addr × Str)} {H : Hp} {d : Addr} {xs : List V} (t : Tabs T H) (h : H d = some (.lst xs)) (x : HO) : Tabs T (upd H d x) := fun p hp => by
  obtain ⟨ps, h1, h2, h3⟩ := t p hp
  refine ⟨ps, ?_, h2, fun pos cv hc => ?_⟩
  · rw [upd_ne (by rintro rfl; rw [h] at h1; cases h1)]
    exact h1
  · obtain ⟨c, e1, e2⟩ := h3 pos cv hc
    refine ⟨c, e1, ?_⟩
    rw [upd_ne (by
      rintro rfl
      rw [h] at e2
      unfold LamX.CodeO at e2
      cases e2)]
    exact e2
theorem TupK.fx3 {H H' : Hp} {o d m C dx : Addr} {fs : List (Str × V)} {kvs : List (L2.Key × V)} {mvs : List (List L2.Key × V)} (s : Fx3 o d m H H') (ho : H o = some (.ins C dx fs)) (hd : H d = some (.dK kvs)) (hm : H m = some (.dT mvs)) : TupK H H' := fun b => by
  refine ⟨fun xs e => s b _ ?_ ?_ ?_ e fun ps z => (by cases z), fun ob c e => s b _ ?_ ?_ ?_ e fun ps z => (by cases z)⟩
  · rintro rfl; rw [ho] at e; cases e
  · rintro rfl; rw [hd] at e; cases e
  · rintro rfl; rw [hm] at e; cases e
  · rintro rfl; rw [ho] at e; cases e
  · rintro rfl; rw [hd] at e; cases e
  · rintro rfl; rw [hm] at e; cases e
theorem LtK.fx3 {H H' : Hp} {o d m C dx : Addr} {fs : List (Str × V)} {kvs : List (L2.Key × V)} {mvs : List (List L2.Key × V)} (s : Fx3 o d m H H') (ho : H o = some (.ins C dx fs)) (hd : H d = some (.dK kvs)) (hm : H m = some (.dT mvs)) : LtK H H' := fun b => by
  refine ⟨fun xs e => s b _ ?_ ?_ ?_ e fun ps z => (by cases z), fun xs e => s b _ ?_ ?_ ?_ e fun ps z => (by cases z)⟩
  · rintro rfl; rw [ho] at e; cases e
  · rintro rfl; rw [hd] at e; cases e
  · rintro rfl; rw [hm] at e; cases e
  · rintro rfl; rw [ho] at e; cases e
  · rintro rfl; rw [hd] at e; cases e
  · rintro rfl; rw [hm] at e; cases e
theorem flat_keys {ks : List V} (h : KOk ks) : (ks ++ [V.str "other"]).all flatV = true := by
  rw [List.all_eq_true]
  intro k hk
  rcases List.mem_append.mp hk with hk | hk
  · rcases h k hk with ⟨s, rfl⟩ | ⟨i, rfl, _⟩ <;> rfl
  · rw [List.mem_singleton.mp hk]
    rfl
section
variable {P : Program} {w : World} {K : PySem.W.Frag} {mg : Str → Option Value} {base : Heap} {C CL : Addr}
/-! ### left_out -/
abbrev sLo : Stmt := top 35
abbrev nLo : List Str := ["node", "category_sets", "exact", "keys", "categories", "key", "_", "category", "one"]
theorem scLo : FnScope nLo ["node", "category_sets"] (defScope sLo) := ⟨rfl, rfl, rfl, by decide +kernel, rfl, by decide +kernel, by decide +kernel⟩
def spLo (K : PySem.W.Frag) (C CL tp : Addr) : Sp := fun vs H Q _ => ∃ (nv : V) (n : Str) (off : Nat) (cs o r : T) (co dx d m lo ldx : Addr) (rv lq : V) (rs : List Rule) (i : Nat) (kvs : List (L2.Key × V)) (mvs : List (List L2.Key × V)), vs = [nv, .ref co] ∧ Nodes H (.cho [.str "plural", .str n, .int (off : Nat)] cs o r) [nv] ∧ Wf (.cho [.str "plural", .str n, .int (off : Nat)] cs o r) false ∧
  (T.cho [.str "plural", .str n, .int (off : Nat)] cs o r).sz < 30000 ∧ off ≤ 9 ∧ KOk cs.keys ∧ (iks cs.keys).length ≤ 20 ∧ Cg K C H co dx d m (.ref lo) rv rs i kvs mvs ∧ Mv K H rs mvs ∧ mvs.length < 900000 ∧ H lo = some (.ins CL ldx [("rules", lq)]) ∧ RusAt H rs lq ∧ LanOk rs ∧ Tabs (tbs tp) H ∧
  ∀ l H' rv' i' kvs' mvs' b, H l = none → Fx3 co d m H H' → Tabs (tbs tp) H' → Cg K C H' co dx d m (.ref lo) rv' rs i' kvs' mvs' → Mv K H' rs mvs' → mvs'.length ≤ mvs.length + 5 → H' l = some (.lst (((rs.map (·.1)).filter b).map V.str)) → LeftIs rs off cs.keys b → Q (.ref l) H'
theorem ok_lo {f fN fC fK fW fA : Addr} {fd fdN fdC fdK fdW fdA : FuncData} {tp : Addr} (F : Fun K "left_out" "left_out" sLo f fd) (R : CGC K C) (L : LC K CL)
    (GN : FnOk P w K mg base CX0 4 fN fdN ["numbers"] (spNs K)) (bN : Binds K fdN ["numbers"] []) (kN : PySem.W.keepIn K (.ref fN) = true) (mN : mg "set_of_numbers" = some (.ref fN))
    (GC : FnOk P w K mg base CX0 1 fC fdC ["node"] spCases) (bC : Binds K fdC ["node"] []) (kC : PySem.W.keepIn K (.ref fC) = true) (mC : mg "cases_of" = some (.ref fC))
    (GK : FnOk P w K mg base CX0 2 fK fdK ["node"] spKo) (bK : Binds K fdK ["node"] []) (kK : PySem.W.keepIn K (.ref fK) = true) (mK : mg "keys_of" = some (.ref fK))
    (GW : FnOk P w K mg base CX0 6 fW fdW ["one", "other"] (spWi K)) (bW : Binds K fdW ["one", "other"] []) (kW : PySem.W.keepIn K (.ref fW) = true) (mW : mg "is_within" = some (.ref fW))
    (GA : FnOk P w K mg base CX0 8 fA fdA ["self", "category", "offset"] (spGa K C CL tp)) (bA : Binds K fdA ["self", "category", "offset"] []) (mA : Meth K C "arguments_of" fA)
    (mi : mg "isinstance" = none) (mint : mg "int" = none) :
    FnOk P w K mg base CX0 9 f fd ["node", "category_sets"] (spLo K C CL tp) := by
  refine F.ok scLo (fun vs H Q E h => ?_) (fun cdv A outer s H vs Q E hr h => ?_)
  · obtain ⟨nv, n, off, cs, o, r, co, dx, d, m, lo, ldx, rv, lq, rs, i, kvs, mvs, rfl, _⟩ := h
    rfl
  obtain ⟨nv, n, off, cs, o, r, co, dx, d, m, lo, ldx, rv, lq, rs, i, kvs, mvs, rfl, hn, hw, hsz, hoff, hko, hki, cg, hmv, hml, hlo, ⟨rr, rvs, rfl, hrr, har, hlr⟩, hok, hT, q⟩ := h
  have nd := scLo.nd
  refine ⟨_, (pss_cons (ps_set (i := 2) nd rfl (.inr rfl) (pe_call GN (hr.mono (by decide)) rfl mN kN bN .nil pass0 (pa_cons
        (pe_lc (own := [("key", 5), ("_", 6)]) (g := gTup K 2 (gCons (gName 5) (gCons (gName 6) gNil))) (tt := tTest (tCB (rIsi K) (tCons (tVar 5) (tCons (tC (.ty "int")) tNil)))) (te := tVar 5) rfl nd (pi_list (pe_call GC (hr.mono (by decide)) rfl mC kC bC .nil pass0 (pa_cons (pv 0) pa_nil))) (blkOk_by (N := nLo) (sc := defScope sLo) (by decide +kernel))
          (fun _ _ _ _ _ => pg_tup rfl (pgs_cons (pg_name (i := 5) nd rfl (.inl rfl)) (pgs_cons (pg_name (i := 6) nd rfl (.inl rfl)) pgs_nil)))
          (fun _ _ _ _ _ => pts_one (pt_val (pe_callB call_isi (by rfl) mi (by decide +kernel) (pa_cons (pv 5) (pa_cons (pe_bltn (v := .ty "int") (by rfl) mint (by decide +kernel) rfl) pa_nil)))))
          (fun _ _ _ _ _ => pv 5)) pa_nil)))
    (pss_cons (ps_set (i := 3) nd rfl (.inr rfl) (pe_call GK (hr.mono (by decide)) rfl mK kK bK .nil pass0 (pa_cons (pv 0) pa_nil)))
    (pss_cons (ps_setLc (i := 4) (own := [("category", 7), ("_", 6)]) (g := gTup K 2 (gCons (gName 7) (gCons (gName 6) gNil))) (tt := tTest (tOp (rIn K true) (tVar 7) (tVar 3))) (te := tVar 7) rfl nd rfl rfl (sw_true rfl rfl rfl (by decide +kernel)) (pi_list (pe_fld (pe_fld (pv 1) rfl) rfl)) (blkOk_by (N := nLo) (sc := defScope sLo) (by decide +kernel))
          (fun _ _ _ _ _ => pg_tup rfl (pgs_cons (pg_name (i := 7) nd rfl (.inl rfl)) (pgs_cons (pg_name (i := 6) nd rfl (.inl rfl)) pgs_nil)))
          (fun _ _ _ _ _ => pts_one (pt_cmpR op_notIn_seq (pv 7) (pv 3) (by rfl)))
          (fun _ _ _ _ _ => pv 7))
    (pss_one (ps_ret (pe_lc (own := [("one", 8)]) (g := gName 8) (tt := tNot (tTest (tCall (spWi K) [] E0 (tCons (tMeth C "arguments_of" (spGa K C CL tp) [] E0 (tVar 1) (tCons (tVar 8) (tCons (tOp (rIxT K) (tVar 0) (tC (.int 2))) tNil))) (tCons (tVar 2) tNil))))) (te := tVar 8) rfl nd (pi_list (pv 4)) (blkOk_by (N := nLo) (sc := defScope sLo) (by decide +kernel))
          (fun _ _ _ _ _ => pg_name (i := 8) nd rfl (.inl rfl))
          (fun _ _ _ _ _ => pts_one (pt_not (pt_val (pe_call GW (hr.mono (by decide)) rfl mW kW bW .nil pass0 (pa_cons (pe_meth (pv 1) R.c mA GA hr bA .nil pass0 (pa_cons (pv 8) (pa_cons (pe_ix ix_tup (pv 0) pe_int (fun _ _ => rfl)) pa_nil))) (pa_cons (pv 2) pa_nil))))))
          (fun _ _ _ _ _ => pv 8))))))), ?_⟩
  obtain ⟨p, ws, ca, cvs, oa, ovs, e, hp, hca, hcs, ho, hos, hr'⟩ := id hn
  cases e
  obtain ⟨k1, k2⟩ := keys_at hcs hw.2.2.1
  have hkl : cs.keys.length < 30000 := by
    have e1 := (msgs_len hw.2.2.1).2
    have e2 := len_sz cs
    simp only [T.sz] at hsz
    omega
  refine ⟨_, rfl, p, ca, oa, _, cvs, rfl, hp, hca, fun l hl => ⟨l, rfl, ⟨_, SqL.of upd_same⟩, fun D hD => ?_⟩⟩
  have s1 : Same H (upd H l (.lst cvs)) := same_new hl _
  refine lc_list (xs := cvs) (fun i H' => Same (upd H l (.lst cvs)) H' ∧ H' D = some (.lst ((iks (cs.keys.take i)).map nV))) ⟨same_new hD _, upd_same⟩ (fun i H' _ ⟨s', _⟩ => SqL.of (s' _ _ upd_same)) ?_ ?_
  · rintro j x H' hx ⟨s', hD'⟩
    obtain ⟨p', k, a, rfl, hk, hp'⟩ := k2 j x hx
    have hkm := List.mem_of_getElem? hk
    refine ⟨p', _, rfl, .inl (.inl (s' _ _ (s1 _ _ hp'))), rfl, k, _, rfl, a, [], rfl, rfl, rfl, ?_⟩
    rcases hko k hkm with ⟨sx, rfl⟩ | ⟨z, rfl, z0, z1⟩
    · refine ⟨_, rfl, .str sx, .ty "int", .type "str", .type "int", false, rfl, .ty "int", .base (.str _), kit_ty (by decide +kernel), false, rfl, ?_⟩
      refine iteF ⟨s', ?_⟩
      rw [List.take_succ, hk]
      unfold iks at hD' ⊢
      rw [List.filterMap_append]
      simpa using hD'
    · refine ⟨_, rfl, .int z, .ty "int", .type "int", .type "int", true, rfl, .ty "int", .base (.int _), kit_ty (by decide +kernel), true, rfl, ?_⟩
      have hlen : (iks (cs.keys.take j)).length ≤ cs.keys.length := by
        unfold iks
        have h1 := List.length_filterMap_le (fun k => match k with | V.int i => some i.toNat | _ => none) (cs.keys.take j)
        rw [List.length_take] at h1
        omega
      refine iteT ⟨_, rfl, _, hD', sz_line (by rw [List.length_map]; omega), same_mut s' hD _, ?_⟩
      rw [upd_same, List.take_succ, hk]
      have e1 : iks (cs.keys.take j ++ [V.int z]) = iks (cs.keys.take j) ++ [z.toNat] := by
        unfold iks
        rw [List.filterMap_append]
        rfl
      show some (HO.lst _) = some (HO.lst ((iks (cs.keys.take j ++ [V.int z])).map nV))
      rw [e1, List.map_append]
      show some (HO.lst (_ ++ [V.int z])) = some (HO.lst (_ ++ [V.int (z.toNat : Int)]))
      rw [Int.toNat_of_nonneg z0]
  rintro H1 ⟨s2, hD1⟩
  rw [k1, List.take_length] at hD1
  have s12 := s1.trans s2
  refine ⟨D, iks cs.keys, rfl, SqL.of hD1, hki, iks_le hko, fun xv H2 s3 hxv => ?_⟩
  have s13 := s12.trans s3
  have hszk : (T.cho [.str "plural", .str n, .int (off : Nat)] cs o r).sz < 100000 := by omega
  refine ⟨_, rfl, .ref p, _, rfl, Nodes.same s13 hn, hw, rfl, hszk, fun kl H3 hkl s4 hk3 => ?_⟩
  have s14 := s13.trans s4
  have cg3 := cg.ext (Same.extN s14)
  have hrr3 := s14 _ _ hrr
  refine ⟨_, rfl, co, C, dx, _, .ref lo, rfl, cg3.o, R.c, R.n1, rfl, lo, CL, ldx, _, .ref rr, rfl, s14 _ _ hlo, L.c, L.nr, rfl, rr, rfl, ⟨_, SqL.of hrr3⟩, fun D2 hD2 => ?_⟩
  have hrl := har.length
  have hoks : H3 kl = some (.lst (cs.keys ++ [V.str "other"])) := hk3
  refine lc_list (xs := rvs) (fun j H' => Same H3 H' ∧ H' D2 = some (.lst ((((rs.take j).map (·.1)).filter fun c => !inV (.str c) (cs.keys ++ [V.str "other"])).map V.str))) ⟨same_new hD2 _, upd_same⟩ (fun j H' _ ⟨s', _⟩ => SqL.of (s' _ _ hrr3)) ?_ ?_
  · rintro j y H' hy ⟨s', hD'⟩
    obtain ⟨⟨ct, con⟩, hz, p', cv, rfl, hp', _⟩ := A2.get har hy
    have hi := get_lt hz
    refine ⟨p', _, rfl, .inl (.inl ((s14.trans s') _ _ hp')), rfl, .str ct, _, rfl, cv, [], rfl, rfl, rfl, ?_⟩
    refine ⟨_, rfl, _, rfl, kl, _, rfl, .inl (SqL.of (s' _ _ hoks)), rfl, flat_keys hko, _, rfl, ?_⟩
    have htk : ((rs.take (j + 1)).map (·.1)) = (rs.take j).map (·.1) ++ [ct] := take_map (fun r : Rule => r.1) hz
    cases hin : inV (V.str ct) (cs.keys ++ [V.str "other"]) with
    | true =>
      refine iteF ⟨s', ?_⟩
      rw [htk, List.filter_append]
      simpa [hin] using hD'
    | false =>
      have hll : (((rs.take j).map (·.1)).filter fun c => !inV (.str c) (cs.keys ++ [V.str "other"])).length ≤ j := by
        have := List.length_filter_le (fun c => !inV (.str c) (cs.keys ++ [V.str "other"])) ((rs.take j).map (·.1))
        rw [List.length_map, List.length_take] at this
        omega
      refine iteT ⟨_, rfl, _, hD', sz_line (by rw [List.length_map]; omega), same_mut s' hD2 _, ?_⟩
      rw [upd_same, htk, List.filter_append, List.map_append]
      simp [hin]
  rintro H4 ⟨s5, hD4⟩
  rw [hrl, List.take_length] at hD4
  have s15 := s14.trans s5
  have cg4 := cg3.ext (Same.extN s5)
  have hmv4 := hmv.tk (TupK.same s15)
  have T4 := Tabs.same hT s15
  have hlo4 := s15 _ _ hlo
  have hrus4 : RusAt H4 rs (.ref rr) := RusAt.same s15 _ _ ⟨rr, rvs, rfl, hrr, har, hlr⟩
  have hp4 := s15 _ _ hp
  have hx4 := hxv.same (s4.trans s5)
  have D2co : D2 ≠ co := (ne_of_none cg3.o hD2).symm
  have D2d : D2 ≠ d := (ne_of_none cg3.f hD2).symm
  have D2m : D2 ≠ m := (ne_of_none cg3.mm hD2).symm
  have loo : lo ≠ co := by
    rintro rfl
    rw [cg.o] at hlo
    injection hlo with hlo
    injection hlo with _ _ hlo
    have := congrArg List.length hlo
    simp [cgF] at this
  have lod : lo ≠ d := by
    rintro rfl
    rw [cg.f] at hlo
    cases hlo
  have lom : lo ≠ m := by
    rintro rfl
    rw [cg.mm] at hlo
    cases hlo
  have hr5 : rs.length ≤ 5 := by
    have := hok.1.length_le
    rw [List.length_map] at this
    exact this
  classical
  let b : Str → Bool := fun c => decide (inV (.str c) (cs.keys ++ [V.str "other"]) = false ∧ ∃ f, (c, f) ∈ sE rs (fun _ => true) ∧ ∃ n, mvF f off n = true ∧ n ∉ iks cs.keys)
  have hbL : LeftIs rs off cs.keys b := fun c f hf => by
    show decide _ = true ↔ _
    rw [decide_eq_true_eq]
    constructor
    · rintro ⟨h1, g, hg, h2⟩
      rw [sE_one hok hf hg]
      exact ⟨h1, h2⟩
    · rintro ⟨h1, h2⟩
      exact ⟨h1, f, hf, h2⟩
  generalize hcats : ((rs.map (·.1)).filter fun c => !inV (.str c) (cs.keys ++ [V.str "other"])) = cats' at hD4
  have hcl : cats'.length ≤ 5 := by
    rw [← hcats]
    have := List.length_filter_le (fun c => !inV (.str c) (cs.keys ++ [V.str "other"])) (rs.map (·.1))
    rw [List.length_map] at this
    omega
  refine ⟨_, rfl, D2, rfl, ⟨_, SqL.of hD4⟩, fun D3 hD3 => ?_⟩
  have D3co : D3 ≠ co := (ne_of_none cg4.o hD3).symm
  have D3d : D3 ≠ d := (ne_of_none cg4.f hD3).symm
  have D3m : D3 ≠ m := (ne_of_none cg4.mm hD3).symm
  have s6 : Same H4 (upd H4 D3 (.lst [])) := same_new hD3 _
  have hl3 : H D3 = none := s15.free hD3
  refine lc_list (xs := cats'.map V.str) (fun j H' => ∃ rv' i' kvs' mvs', Fx3 co d m H4 H' ∧ Tabs (tbs tp) H' ∧ Cg K C H' co dx d m (.ref lo) rv' rs i' kvs' mvs' ∧ Mv K H' rs mvs' ∧ mvs'.length ≤ mvs.length + j ∧ H' D3 = some (.lst (((cats'.take j).filter b).map V.str)))
    ⟨rv, i, kvs, mvs, Fx3.ext (Same.extN s6), Tabs.same T4 s6, cg4.ext (Same.extN s6), hmv4.tk (TupK.same s6), Nat.le_refl _, upd_same⟩ (fun j H' _ ⟨_, _, _, _, fx, _⟩ => SqL.of (fx _ _ D2co D2d D2m hD4 fun ps z => (by cases z))) ?_ ?_
  · rintro j y H' hy ⟨rv', i', kvs', mvs', fx, T', cg', mv', ml', hD'⟩
    rw [List.getElem?_map] at hy
    obtain ⟨c, hc, rfl⟩ := Option.map_eq_some_iff.mp hy
    have hj := get_lt hc
    have hcm := List.mem_of_getElem? hc
    rw [← hcats, List.mem_filter] at hcm
    have hin : inV (.str c) (cs.keys ++ [V.str "other"]) = false := by
      have := hcm.2
      revert this
      cases inV (.str c) (cs.keys ++ [V.str "other"]) <;> simp
    have k' : TupK H4 H' := TupK.fx3 fx cg4.o cg4.f cg4.mm
    have lk' : LtK H4 H' := LtK.fx3 fx cg4.o cg4.f cg4.mm
    refine ⟨rfl, _, rfl, co, dx, _, rfl, cg'.o, rfl, _, rfl, _, rfl, p, _, 2, .int (off : Nat), rfl, rfl, SqT.of ((k' p).1 _ hp4), atI_nat (j := 2) rfl, co, dx, d, m, lo, ldx, rv', .ref rr, rs, i', kvs', mvs', c, off, rfl, cg', mv', by omega, fx _ _ loo lod lom hlo4 fun ps z => (by cases z), RusAt.lt lk' _ _ hrus4, hok, hcm.1, hoff, T', fun v g H5 rv5 i5 kvs5 mvs5 fx5 T5 cg5 mv5 ml5 hsb hg => ?_⟩
    have k5 : TupK H' H5 := TupK.fx3 fx5 cg'.o cg'.f cg'.mm
    refine ⟨_, rfl, v, xv, _, _, rfl, hsb, hx4.tk (k'.trans k5), fun bw H6 s7 hbw => ⟨_, rfl, ?_⟩⟩
    have cg6 := cg5.ext (Same.extN s7)
    have fx6 : Fx3 co d m H4 H6 := (fx.trans fx5).trans (Fx3.ext (Same.extN s7))
    have hD6 := s7 _ _ (fx5 _ _ D3co D3d D3m hD' fun ps z => (by cases z))
    have htk : cats'.take (j + 1) = cats'.take j ++ [c] := by
      rw [List.take_succ, hc]
      rfl
    have hbc : b c = !bw := by
      cases bw with
      | true =>
        refine decide_eq_false ?_
        rintro ⟨_, g', hg', n', h1, h2⟩
        rw [← sE_one hok hg hg'] at h1
        have := hbw.mp rfl n'
        rw [h1, decide_eq_false h2] at this
        cases this
      | false =>
        refine decide_eq_true ⟨hin, g, hg, ?_⟩
        by_cases z : ∃ n, mvF g off n = true ∧ n ∉ iks cs.keys
        · exact z
        · have : (false : Bool) = true := hbw.mpr fun n' => by
            cases h1 : mvF g off n' with
            | false => rfl
            | true =>
              by_cases h2 : n' ∈ iks cs.keys
              · rw [decide_eq_true h2]; rfl
              · exact absurd ⟨n', h1, h2⟩ z
          cases this
    cases bw with
    | true =>
      refine iteF ⟨rv5, i5, kvs5, mvs5, fx6, Tabs.same T5 s7, cg6, mv5.tk (TupK.same s7), by omega, ?_⟩
      rw [htk, List.filter_append]
      simpa [hbc] using hD6
    | false =>
      have kL : TupK H6 (upd H6 D3 (.lst (((cats'.take j).filter b).map V.str ++ [.str c]))) := TupK.lst hD6 _
      have hfl : ((cats'.take j).filter b).length ≤ cats'.length := by
        have := List.length_filter_le b (cats'.take j)
        rw [List.length_take] at this
        omega
      refine iteT ⟨_, rfl, _, hD6, sz_line (by rw [List.length_map]; omega), rv5, i5, kvs5, mvs5, fun b' u n1 n2 n3 h t => ?_, Tabs.lst (Tabs.same T5 s7) hD6 _, ⟨by rw [upd_ne D3co.symm]; exact cg6.o, cg6.ile, by rw [upd_ne D3d.symm]; exact cg6.f, cg6.e.mono fun _ _ h => h.tk kL, cg6.r.tk kL, by rw [upd_ne D3m.symm]; exact cg6.mm⟩, (mv5.tk (TupK.same s7)).tk kL, by omega, ?_⟩
      · rw [upd_ne (ne_of_none h hD3)]
        exact fx6 b' u n1 n2 n3 h t
      · rw [upd_same, htk, List.filter_append, List.map_append]
        simp [hbc]
  · rintro H5 ⟨rv', i', kvs', mvs', fx, T5, cg5, mv5, ml5, hD5⟩
    rw [List.length_map, List.take_length] at hD5
    rw [List.length_map] at ml5
    have ef : cats'.filter b = (rs.map (·.1)).filter b := by
      rw [← hcats, List.filter_filter]
      refine List.filter_congr fun c _ => ?_
      show (b c && !inV (.str c) (cs.keys ++ [V.str "other"])) = b c
      cases hb : b c with
      | false => rfl
      | true =>
        have := (of_decide_eq_true hb).1
        rw [this]
        rfl
    rw [ef] at hD5
    exact q D3 H5 rv' i' kvs' mvs' b hl3 ((Fx3.ext (Same.extN s15)).trans fx) T5 cg5 mv5 (by omega) hD5 hbL
end
end Mw

set_option maxHeartbeats 1000000
namespace Mw
open PySem L2
def T.isPlu : T → Bool
  | .cho (.str s :: _) _ _ _ => decide (s = "plural")
  | _ => false
/-- what the law's plurals are -/
def PluOk (u : T) : Prop := u.isPlu = true → ∃ (n : Str) (off : Nat) (cs o r : T), u = .cho [.str "plural", .str n, .int (off : Nat)] cs o r ∧ off ≤ 9 ∧ KOk cs.keys ∧ (iks cs.keys).length ≤ 20 ∧ u.sz < 30000
def T.offN : T → Nat
  | .cho [_, _, .int off] _ _ _ => off.toNat
  | _ => 0
def T.cks : T → List V
  | .cho _ cs _ _ => cs.keys
  | _ => []
theorem ch_len : ∀ (t : T) (i : Nat) (p : List V), (t.ch i p).length ≤ t.sz
  | .nil, _, _ => Nat.le_refl _
  | .text _ r, i, p => by
    have := ch_len r (i + 1) p
    simp only [T.ch, T.sz]
    omega
  | .shw _ r, i, p => by
    have := ch_len r (i + 1) p
    simp only [T.ch, T.sz]
    omega
  | .num r, i, p => by
    have := ch_len r (i + 1) p
    simp only [T.ch, T.sz]
    omega
  | .cho hd cs o r, i, p => by
    have h1 := ch_len r (i + 1) p
    have h2 := ch_len cs 0 (p ++ [.int (i : Nat)])
    have h3 := ch_len o 0 (p ++ [.int (i : Nat)] ++ [.str "other"])
    simp only [T.ch, T.sz, List.length_cons, List.length_append]
    simp only [List.append_assoc] at h3
    simp only [List.append_assoc]
    omega
  | .cas k m r, i, p => by
    have h1 := ch_len m 0 (p ++ [k])
    have h2 := ch_len r i p
    simp only [T.ch, T.sz, List.length_append]
    omega
/-- one plural with what it lacks -/
def LkAt (K : PySem.W.Frag) (H' : Hp) (rs : List Rule) (x : List V × T) (v : V) : Prop := ∃ q wp ll b, v = .ref q ∧ SqT K H' q [.ref wp, .ref ll] ∧ SqT K H' wp x.1 ∧ H' ll = some (.lst (((rs.map (·.1)).filter b).map V.str)) ∧ LeftIs rs x.2.offN x.2.cks b
theorem Nodes.lt {H H' : Hp} (e : LtK H H') : ∀ {t : T} {vs : List V}, Nodes H t vs → Nodes H' t vs
  | .nil, _, h => h
  | .text s r, _, h => by
    obtain ⟨p, ws, rfl, hp, hr⟩ := h
    exact ⟨p, ws, rfl, (e _).2 _ hp, Nodes.lt e hr⟩
  | .shw n r, _, h => by
    obtain ⟨p, ws, rfl, hp, hr⟩ := h
    exact ⟨p, ws, rfl, (e _).2 _ hp, Nodes.lt e hr⟩
  | .num r, _, h => by
    obtain ⟨p, ws, rfl, hp, hr⟩ := h
    exact ⟨p, ws, rfl, (e _).2 _ hp, Nodes.lt e hr⟩
  | .cho hd cs o r, _, h => by
    obtain ⟨p, ws, ca, cvs, oa, ovs, rfl, hp, hc, hcs, ho, hos, hr⟩ := h
    exact ⟨p, ws, ca, cvs, oa, ovs, rfl, (e _).2 _ hp, (e _).1 _ hc, Nodes.lt e hcs, (e _).1 _ ho, Nodes.lt e hos, Nodes.lt e hr⟩
  | .cas k m r, _, h => by
    obtain ⟨p, ws, ma, mvs, rfl, hp, hm, hms, hr⟩ := h
    exact ⟨p, ws, ma, mvs, rfl, (e _).2 _ hp, (e _).1 _ hm, Nodes.lt e hms, Nodes.lt e hr⟩
def LkB (K : PySem.W.Frag) (D2 : Addr) (H' : Hp) (rs : List Rule) (x : List V × T) (v : V) : Prop := ∃ q wp ll b, v = .ref q ∧ SqT K H' q [.ref wp, .ref ll] ∧ SqT K H' wp x.1 ∧ ll ≠ D2 ∧ H' ll = some (.lst (((rs.map (·.1)).filter b).map V.str)) ∧ LeftIs rs x.2.offN x.2.cks b
theorem LkB.mono {K : PySem.W.Frag} {D2 : Addr} {H H' : Hp} {rs : List Rule} (k : TupK H H') (g : ∀ b xs, b ≠ D2 → H b = some (.lst xs) → H' b = some (.lst xs)) (x : List V × T) (v : V) (h : LkB K D2 H rs x v) : LkB K D2 H' rs x v := by
  obtain ⟨q, wp, ll, b, e, h1, h2, h3, h4, h5⟩ := h
  exact ⟨q, wp, ll, b, e, SqT.tk k h1, SqT.tk k h2, h3, g _ _ h3 h4, h5⟩
section
variable {P : Program} {w : World} {K : PySem.W.Frag} {mg : Str → Option Value} {base : Heap} {C CL : Addr}
/-! ### lacks -/
abbrev sLk : Stmt := top 36
abbrev nLk : List Str := ["message", "language", "category_sets", "plurals", "where", "node"]
theorem scLk : FnScope nLk ["message", "language"] (defScope sLk) := ⟨rfl, rfl, rfl, by decide +kernel, rfl, by decide +kernel, by decide +kernel⟩
def spLk (K : PySem.W.Frag) (CL tp : Addr) : Sp := fun vs H Q _ => ∃ (a lo ldx : Addr) (t : T) (lq : V) (rs : List Rule), vs = [.ref a, .ref lo] ∧ At H a t ∧ Wf t false ∧ t.sz < 30000 ∧ (∀ x ∈ t.ch 0 [], PluOk x.2) ∧ H lo = some (.ins CL ldx [("rules", lq)]) ∧ RusAt H rs lq ∧ LanOk rs ∧ Tabs (tbs tp) H ∧
  ∀ l H' vs', ExtN H H' → Tabs (tbs tp) H' → H' l = some (.lst vs') → A2 (LkAt K H' rs) ((t.ch 0 []).filter fun x => x.2.isPlu) vs' → Q (.ref l) H'
theorem ok_lk {f fI fW fL tp : Addr} {fd fdI fdW fdL : FuncData} (F : Fun K "lacks" "lacks" sLk f fd) (M : Mk K C fI) (mC : mg "CategorySets" = some (.ref C))
    (GI : FnOk P w K mg base CX0 1 fI fdI ["self", "language"] (spGi K C)) (bI : Binds K fdI ["self", "language"] [])
    (GW : FnOk P w K mg base CX0 3 fW fdW ["message"] (spCw K)) (bW : Binds K fdW ["message"] []) (kW : PySem.W.keepIn K (.ref fW) = true) (mW : mg "choices_within" = some (.ref fW))
    (GL : FnOk P w K mg base CX0 9 fL fdL ["node", "category_sets"] (spLo K C CL tp)) (bL : Binds K fdL ["node", "category_sets"] []) (kL : PySem.W.keepIn K (.ref fL) = true) (mL : mg "left_out" = some (.ref fL)) :
    FnOk P w K mg base CX0 10 f fd ["message", "language"] (spLk K CL tp) := by
  refine F.ok scLk (fun vs H Q E h => ?_) (fun cdv A outer s H vs Q E hr h => ?_)
  · obtain ⟨a, lo, ldx, t, lq, rs, rfl, _⟩ := h
    rfl
  obtain ⟨a, lo, ldx, t, lq, rs, rfl, hat, hwf, hsz, hpl, hlo, hrs, hok, hT, q⟩ := h
  have nd := scLk.nd
  refine ⟨_, (pss_cons (ps_set (i := 2) nd rfl (.inr rfl) (pe_make M GI (hr.mono (by decide)) rfl mC bI .nil pass0 (pa_cons (pv 1) pa_nil)))
    (pss_cons (ps_setLc (i := 3) (own := [("where", 4), ("node", 5)]) (g := gTup K 2 (gCons (gName 4) (gCons (gName 5) gNil))) (tt := tTest (tOp rEq (tOp (rIxT K) (tVar 5) (tC (.int 0))) (tC (.str "plural")))) (te := tTup (tCons (tVar 4) (tCons (tVar 5) tNil))) rfl nd rfl rfl (sw_true rfl rfl rfl (by decide +kernel)) (pi_list (pe_call GW (hr.mono (by decide)) rfl mW kW bW .nil pass0 (pa_cons (pv 0) pa_nil))) (blkOk_by (N := nLk) (sc := defScope sLk) (by decide +kernel))
          (fun _ _ _ _ _ => pg_tup rfl (pgs_cons (pg_name (i := 4) nd rfl (.inl rfl)) (pgs_cons (pg_name (i := 5) nd rfl (.inl rfl)) pgs_nil)))
          (fun _ _ _ _ _ => pts_one (pt_cmpR op_eq (pe_ix ix_tup (pv 5) pe_int (fun _ _ => rfl)) pe_str (nomark _)))
          (fun _ _ _ _ _ => pe_tup (pa_cons (pv 4) (pa_cons (pv 5) pa_nil))))
    (pss_one (ps_ret (pe_lc (own := [("where", 4), ("node", 5)]) (g := gTup K 2 (gCons (gName 4) (gCons (gName 5) gNil))) (tt := tYes) (te := tTup (tCons (tVar 4) (tCons (tCall (spLo K C CL tp) [] E0 (tCons (tVar 5) (tCons (tVar 2) tNil))) tNil))) rfl nd (pi_list (pv 3)) (blkOk_by (N := nLk) (sc := defScope sLk) (by decide +kernel))
          (fun _ _ _ _ _ => pg_tup rfl (pgs_cons (pg_name (i := 4) nd rfl (.inl rfl)) (pgs_cons (pg_name (i := 5) nd rfl (.inl rfl)) pgs_nil))) (fun _ _ _ _ _ => pts_nil)
          (fun _ _ _ _ _ => pe_tup (pa_cons (pv 4) (pa_cons (pe_call GL hr rfl mL kL bL .nil pass0 (pa_cons (pv 5) (pa_cons (pv 2) pa_nil))) pa_nil)))))))), ?_⟩
  refine ⟨_, rfl, fun o dx ho hdx ne => ⟨o, dx, .ref lo, rfl, upd_same, fun d m rv H1 k1 ho1 hd hm hd1 hm1 hr1 => ⟨rfl, ?_⟩⟩⟩
  have S0 : Same H (upd (upd H dx (.own o)) o (.ins C dx [])) := same_mut (same_new hdx _) ho _
  have S1 : Same H H1 := fun b u h => k1 b u (S0 b u h) (by rintro rfl; rw [ho] at h; cases h)
  have cg1 : Cg K C H1 o dx d m (.ref lo) rv rs 0 [] [] := ⟨ho1, Nat.zero_le _, hd1, rfl, hr1, hm1⟩
  have mv1 : Mv K H1 rs [] := fun cat off v e => by cases e
  refine ⟨_, rfl, a, t, rfl, At.same S1 hat, hwf, hsz, fun fl H2 fvs s2 hfl aF => ⟨fl, rfl, ⟨_, SqL.of hfl⟩, fun D hD => ?_⟩⟩
  have hfvl := aF.length
  refine lc_list (xs := fvs) (fun j H' => ∃ cvs, Same H2 H' ∧ H' D = some (.lst cvs) ∧ A2 (ItAt K H1 H') (nods (((t.ch 0 []).take j).filter fun x => x.2.isPlu)) cvs ∧ cvs.length ≤ j) ⟨[], same_new hD _, upd_same, by rw [List.take_zero]; exact rfl, Nat.le_refl _⟩ (fun j H' _ ⟨_, s', _⟩ => SqL.of (s' _ _ hfl)) ?_ ?_
  · rintro j y H' hy ⟨cvs, s', hD', aC, hcl⟩
    obtain ⟨x, hx, qq, wp, pv, rfl, hq1, hq2, hpt⟩ := A2.get aF hy
    unfold nods at hx
    rw [List.getElem?_map] at hx
    obtain ⟨⟨p, u⟩, hu, rfl⟩ := Option.map_eq_some_iff.mp hx
    obtain ⟨wfu, hcu, hnu⟩ := hpt
    have k' := TupK.same s'
    have htk : (t.ch 0 []).take (j + 1) = (t.ch 0 []).take j ++ [(p, u)] := by
      rw [List.take_succ, hu]
      rfl
    refine ⟨qq, _, rfl, SqT.tk k' hq1, rfl, .ref wp, _, rfl, pv, [], rfl, rfl, rfl, ?_⟩
    cases u with
    | cho hd cs o' r =>
      obtain ⟨p', ws, ca, cvs0, oa, ovs, e, hp, hca, hcs, hoo, hos, hr'⟩ := id hnu
      cases e
      have hp2 := (s2.trans s') _ _ hp
      have fin : ∀ sx : Str, (∃ rest, hd = V.str sx :: rest) → True := fun _ _ => trivial
      obtain ⟨sx, rest, rfl⟩ : ∃ sx rest, hd = V.str sx :: rest := by
        rcases wfu.2.1 with ⟨n, rfl⟩ | ⟨n, off, rfl⟩
        · exact ⟨_, _, rfl⟩
        · exact ⟨_, _, rfl⟩
      refine ⟨_, rfl, p', _, 0, .str sx, rfl, rfl, SqT.of hp2, atI_nat (j := 0) rfl, rfl, _, rfl, ?_⟩
      have hpl' : (T.cho (V.str sx :: rest) cs o' r).isPlu = decide (sx = "plural") := rfl
      by_cases hs : sx = "plural"
      · rw [show decide (V.str sx = V.str "plural") = true from decide_eq_true (by rw [hs])]
        refine iteT ⟨_, rfl, _, rfl, by show 2 ≤ sizeLine; decide, fun t1 h1 => ?_⟩
        have s3 : Same H' (upd H' t1 (.tup [.ref wp, .ref p'])) := same_new h1 _
        have hD2 := s3 _ _ hD'
        have kD : TupK (upd H' t1 (.tup [.ref wp, .ref p'])) (upd (upd H' t1 (.tup [.ref wp, .ref p'])) D (.lst (cvs ++ [.ref t1]))) := TupK.lst hD2 _
        refine ⟨cvs, hD2, sz_line ?_, cvs ++ [.ref t1], same_mut (s'.trans s3) hD _, upd_same, ?_, by rw [List.length_append]; show cvs.length + 1 ≤ j + 1; omega⟩
        · have h1 := get_lt hu
          have h2 := ch_len t 0 []
          omega
        · rw [htk, List.filter_append, show List.filter (fun x : List V × T => x.2.isPlu) [(p, T.cho (V.str sx :: rest) cs o' r)] = [(p, T.cho (V.str sx :: rest) cs o' r)] from List.filter_cons_of_pos (by show T.isPlu _ = true; rw [hpl']; exact decide_eq_true hs)]
          unfold nods
          rw [List.map_append]
          exact A2.snoc (aC.mono (ItAt.tk ((TupK.same s3).trans kD))) ⟨t1, wp, .ref p', rfl, SqT.tk kD (SqT.of upd_same), SqT.tk ((k'.trans (TupK.same s3)).trans kD) hq2, wfu, hcu, hnu⟩
      · rw [show decide (V.str sx = V.str "plural") = false from decide_eq_false fun z => hs (by injection z)]
        refine iteF ⟨cvs, s', hD', ?_, by omega⟩
        rw [htk, List.filter_append, show List.filter (fun x : List V × T => x.2.isPlu) [(p, T.cho (V.str sx :: rest) cs o' r)] = [] from List.filter_cons_of_neg (by show ¬ T.isPlu _ = true; rw [hpl', decide_eq_false hs]; exact Bool.false_ne_true), List.append_nil]
        exact aC
    | _ => cases hcu
  · rintro H3 ⟨cvs, s3, hD3, aC, hcl⟩
    have hfl2 : fvs.length = (t.ch 0 []).length := by
      rw [hfvl]
      unfold nods
      rw [List.length_map]
    rw [hfl2, List.take_length] at aC
    have s13 := s2.trans s3
    have cg3 := cg1.ext (Same.extN s13)
    have hlo3 := (S1.trans s13) _ _ hlo
    have hrs3 := hrs.same (S1.trans s13)
    have loo : lo ≠ o := ne_of_none hlo ho
    have hd0 : H d = none := S0.free hd
    have hm0 : H m = none := S0.free hm
    have lod : lo ≠ d := ne_of_none hlo hd0
    have lom : lo ≠ m := ne_of_none hlo hm0
    refine ⟨_, rfl, D, rfl, ⟨_, SqL.of hD3⟩, fun D2 hD2 => ?_⟩
    have D2o : D2 ≠ o := (ne_of_none cg3.o hD2).symm
    have D2d : D2 ≠ d := (ne_of_none cg3.f hD2).symm
    have D2m : D2 ≠ m := (ne_of_none cg3.mm hD2).symm
    have Do : D ≠ o := by rintro rfl; rw [cg3.o] at hD3; cases hD3
    have Dd : D ≠ d := by rintro rfl; rw [cg3.f] at hD3; cases hD3
    have Dm : D ≠ m := by rintro rfl; rw [cg3.mm] at hD3; cases hD3
    have s4 : Same H3 (upd H3 D2 (.lst [])) := same_new hD2 _
    have hch := ch_len t 0 []
    refine lc_list (xs := cvs) (fun j H' => ∃ rv' i' kvs' mvs' vs', Fx3 o d m H3 H' ∧ Tabs (tbs tp) H' ∧ Cg K C H' o dx d m (.ref lo) rv' rs i' kvs' mvs' ∧ Mv K H' rs mvs' ∧ mvs'.length ≤ 5 * j ∧ H' D2 = some (.lst vs') ∧ A2 (LkB K D2 H' rs) (((t.ch 0 []).filter fun x => x.2.isPlu).take j) vs' ∧ vs'.length ≤ j)
      ⟨rv, 0, [], [], [], Fx3.ext (Same.extN s4), Tabs.same hT ((S1.trans s13).trans s4), cg3.ext (Same.extN s4), mv1.tk (TupK.same (s13.trans s4)), Nat.le_refl _, upd_same, by rw [List.take_zero]; exact rfl, Nat.le_refl _⟩ (fun j H' _ ⟨_, _, _, _, _, fx, _⟩ => SqL.of (fx _ _ Do Dd Dm hD3 fun ps z => (by cases z))) ?_ ?_
    · rintro j y H' hy ⟨rv', i', kvs', mvs', vs', fx, T', cg', mv', ml', hD', aL, hvl⟩
      obtain ⟨x, hx, qq, wp, pv, rfl, hq1, hq2, hpt⟩ := A2.get aC hy
      unfold nods at hx
      rw [List.getElem?_map] at hx
      obtain ⟨⟨p, u⟩, hu, rfl⟩ := Option.map_eq_some_iff.mp hx
      obtain ⟨wfu, hcu, hnu⟩ := hpt
      have hum := List.mem_filter.mp (List.mem_of_getElem? hu)
      have hjl := get_lt hu
      have hfil := List.length_filter_le (fun x : List V × T => x.2.isPlu) (t.ch 0 [])
      obtain ⟨n, off, cs, o', r, eu, hoff, hko, hki, hszu⟩ := hpl _ hum.1 hum.2
      have eu : u = T.cho [.str "plural", .str n, .int (off : Nat)] cs o' r := eu
      subst eu
      have k' : TupK H3 H' := TupK.fx3 fx cg3.o cg3.f cg3.mm
      have lk' : LtK H3 H' := LtK.fx3 fx cg3.o cg3.f cg3.mm
      have htk : ((t.ch 0 []).filter fun x => x.2.isPlu).take (j + 1) = ((t.ch 0 []).filter fun x => x.2.isPlu).take j ++ [(p, T.cho [.str "plural", .str n, .int (off : Nat)] cs o' r)] := by
        rw [List.take_succ, hu]
        rfl
      refine ⟨qq, _, rfl, SqT.tk k' hq1, rfl, .ref wp, _, rfl, pv, [], rfl, rfl, rfl, ?_⟩
      refine ⟨_, rfl, _, rfl, _, rfl, pv, n, off, cs, o', r, o, dx, d, m, lo, ldx, rv', lq, rs, i', kvs', mvs', rfl, Nodes.lt ((LtK.ext (Same.extN s13)).trans lk') hnu, wfu, hszu, hoff, hko, hki, cg', mv', by omega, fx _ _ loo lod lom hlo3 fun ps z => (by cases z), RusAt.lt lk' _ _ hrs3, hok, T', fun l H5 rv5 i5 kvs5 mvs5 b hl fx5 T5 cg5 mv5 ml5 hl5 hb => ⟨by show 2 ≤ sizeLine; decide, fun t1 h1 => ?_⟩⟩
      have k5 : TupK H' H5 := TupK.fx3 fx5 cg'.o cg'.f cg'.mm
      have lk5 : LtK H' H5 := LtK.fx3 fx5 cg'.o cg'.f cg'.mm
      have s6 : Same H5 (upd H5 t1 (.tup [.ref wp, .ref l])) := same_new h1 _
      have hD6 := s6 _ _ ((lk5 D2).1 _ hD')
      have cg6 := cg5.ext (Same.extN s6)
      have lD2 : l ≠ D2 := (ne_of_none hD' hl).symm
      have kL : TupK (upd H5 t1 (.tup [.ref wp, .ref l])) (upd (upd H5 t1 (.tup [.ref wp, .ref l])) D2 (.lst (vs' ++ [.ref t1]))) := TupK.lst hD6 _
      refine ⟨vs', hD6, sz_line (by omega), rv5, i5, kvs5, mvs5, vs' ++ [.ref t1], fun b' u n1 n2 n3 h tt => ?_, Tabs.lst (Tabs.same T5 s6) hD6 _, ⟨by rw [upd_ne D2o.symm]; exact cg6.o, cg6.ile, by rw [upd_ne D2d.symm]; exact cg6.f, cg6.e.mono fun _ _ h => h.tk kL, cg6.r.tk kL, by rw [upd_ne D2m.symm]; exact cg6.mm⟩, (mv5.tk (TupK.same s6)).tk kL, by omega, upd_same, ?_, by rw [List.length_append]; show vs'.length + 1 ≤ j + 1; omega⟩
      · rw [upd_ne (ne_of_none h hD2)]
        exact ((fx.trans fx5).trans (Fx3.ext (Same.extN s6))) b' u n1 n2 n3 h tt
      · rw [htk]
        refine A2.snoc (aL.mono (LkB.mono ((k5.trans (TupK.same s6)).trans kL) fun b' xs ne h => ?_)) ⟨t1, wp, l, b, rfl, SqT.tk kL (SqT.of upd_same), SqT.tk (((k'.trans k5).trans (TupK.same s6)).trans kL) hq2, lD2, ?_, hb⟩
        · rw [upd_ne ne]
          exact s6 _ _ ((lk5 b').1 _ h)
        · rw [upd_ne lD2]
          exact s6 _ _ hl5
    · rintro H5 ⟨rv', i', kvs', mvs', vs', fx, T5, cg5, mv5, ml5, hD5, aL, hvl⟩
      have hcvl : cvs.length = ((t.ch 0 []).filter fun x => x.2.isPlu).length := by
        rw [aC.length]
        unfold nods
        rw [List.length_map]
      rw [hcvl, List.take_length] at aL
      refine q D2 H5 vs' (fun b u h tt => fx b u (ne_of_none h ho) (ne_of_none h hd0) (ne_of_none h hm0) ((S1.trans s13) _ _ h) tt) T5 hD5 (aL.mono fun x v ⟨q', wp, ll, b, e, h1, h2, _, h4, h5⟩ => ⟨q', wp, ll, b, e, h1, h2, h4, h5⟩)
end
end Mw

set_option maxHeartbeats 1000000
namespace Mw
open PySem L2
theorem fr_new_obj {H0 H : Hp} {p : Addr} {o : HO} (h0 : H0 p = none) (h : H p = some o) : fr H0 H p = some o := by rw [fr_new h0]; exact h
theorem hids_out {L : List Addr} {H : Hp} : Same (hids L H) H := fun _ _ h => (hids_in h).2
theorem fr_hids {B : Addr} {H0 H : Hp} {ob : HO} (hB : H0 B = some ob) : Same (fr H0 H) (hids [B] H) := fun a o h => by
  obtain ⟨h0, h1⟩ := fr_in h
  have n : a ∉ [B] := fun e => by
    rw [List.mem_singleton] at e
    subst e
    rw [hB] at h0
    cases h0
  rw [hids_ne n]
  exact h1
/-- what the law's languages are, beside LanOk -/
def Rl43 (x : Rel) : Prop := (x.1 = 0 ∨ x.1 = 2 ∨ x.1 = 3 ∨ x.1 = 4 ∨ x.1 = 6) ∧ ∀ r ∈ x.2.2, r.2 ≤ 4
def Lan43 (rs : List Rule) : Prop := (rs.map (·.1)).Sublist (["one", "few"] : List Str) ∧ ∀ r ∈ rs, ∀ row ∈ r.2, ∀ x ∈ row, Rl43 x
section
variable {P : Program} {w : World} {K : PySem.W.Frag} {mg : Str → Option Value} {base : Heap} {C : Addr}
/-! ### _law_language -/
abbrev sLg : Stmt := top 43
abbrev nLg : List Str := ["box", "rules", "category", "condition", "row", "low", "high"]
theorem scLg : FnScope nLg ["box"] (defScope sLg) := ⟨rfl, rfl, rfl, by decide +kernel, rfl, by decide +kernel, by decide +kernel⟩
def spLg (C : Addr) : Sp := fun vs H Q _ => ∃ (B d : Addr), vs = [.ref B] ∧ Box H B d ∧ ∀ o dx q x H', Go B H H' → Box H' B d → H o = none → H' o = some (.ins C dx [("rules", q)]) → RusAt (hids [B] H') x q → LanOk x → Lan43 x → Q (.ref o) H'
theorem ok_lg {f fD fI : Addr} {fd fdD fdI : FuncData} (F : Fun K "_law_language" "_law_language" sLg f fd)
    (GD : FnOk P w K mg base CX0 1 fD fdD ["box", "many"] spDraw) (bD : Binds K fdD ["box", "many"] []) (kD : PySem.W.keepIn K (.ref fD) = true) (mD : mg "_law_draw" = some (.ref fD))
    (M : Mk K C fI) (mL : mg "Language" = some (.ref C)) (GI : FnOk P w K mg base CX0 2 fI fdI ["self", "rules"] (spLi C)) (bI : Binds K fdI ["self", "rules"] [])
    (mr : mg "range" = none) (mi : mg "int" = none) :
    FnOk P w K mg base CX0 4 f fd ["box"] (spLg C) := by
  refine F.ok scLg (fun vs H Q E h => ?_) (fun cdv A outer s H vs Q E hr h => ?_)
  · obtain ⟨B, d, rfl, _⟩ := h
    rfl
  obtain ⟨B, d, rfl, hb, q⟩ := h
  have nd := scLg.nd
  refine ⟨_, (pss_cons (ps_set (i := 1) nd rfl (.inl rfl) (pe_lst pa_nil))
      (pss_cons (ps_for PassesOwn.never rfl (pi_list (pe_lst (pa_cons pe_str (pa_cons pe_str pa_nil)))) (pg_name (i := 2) nd rfl (.inl rfl)) (pss_one (ps_if (pt_cmpR op_gt (pe_call GD (hr.mono (by decide)) rfl mD kD bD .nil pass0 (pa_cons (pv 0) (pa_cons pe_int pa_nil))) pe_int (nomark _)) (pss_cons (ps_set (i := 3) nd rfl (.inl rfl) (pe_lst pa_nil))
      (pss_cons (ps_for PassesOwn.never rfl (pi_range1 rfl mr (pa_cons (pe_op op_add pe_int (pe_callTy call_int1 (by rfl) mi (by decide +kernel) (pa_cons (pe_cmpR op_eq (pe_call GD (hr.mono (by decide)) rfl mD kD bD .nil pass0 (pa_cons (pv 0) (pa_cons pe_int pa_nil))) pe_int (nomark _)) pa_nil))) pa_nil)) (pg_name (i := 4) nd rfl (.inl rfl)) (pss_cons (ps_set (i := 5) nd rfl (.inl rfl) (pe_call GD (hr.mono (by decide)) rfl mD kD bD .nil pass0 (pa_cons (pv 0) (pa_cons pe_int pa_nil))))
      (pss_cons (ps_set (i := 6) nd rfl (.inl rfl) (pe_op op_add (pv 5) (pe_call GD (hr.mono (by decide)) rfl mD kD bD .nil pass0 (pa_cons (pv 0) (pa_cons pe_int pa_nil)))))
      (pss_one (ps_expr (pe_bm PySem.F.plainAttrs_list PySem.F.slot_list_append PySem.F.type_list_append mt_append (pv 3) (pa_cons (pe_lst (pa_cons (pe_tup (pa_cons (pe_ix ix_list (pe_lst (pa_cons pe_int (pa_cons pe_int (pa_cons pe_int (pa_cons pe_int (pa_cons pe_int (pa_cons pe_int pa_nil))))))) (pe_call GD (hr.mono (by decide)) rfl mD kD bD .nil pass0 (pa_cons (pv 0) (pa_cons pe_int pa_nil))) (fun _ _ => rfl)) (pa_cons (pe_cmpR op_gt (pe_call GD (hr.mono (by decide)) rfl mD kD bD .nil pass0 (pa_cons (pv 0) (pa_cons pe_int pa_nil))) pe_int (nomark _)) (pa_cons (pe_lst (pa_cons (pe_tup (pa_cons (pv 5) (pa_cons (pv 6) pa_nil))) pa_nil)) pa_nil)))) pa_nil)) pa_nil)))))))
      (pss_one (ps_expr (pe_bm PySem.F.plainAttrs_list PySem.F.slot_list_append PySem.F.type_list_append mt_append (pv 1) (pa_cons (pe_tup (pa_cons (pv 2) (pa_cons (pv 3) pa_nil))) pa_nil)))))) pss_nil)))
      (pss_one (ps_ret (pe_make M GI hr rfl mL bI .nil pass0 (pa_cons (pv 1) pa_nil)))))), ?_⟩
  refine ⟨Nat.zero_le _, fun rl hrl => ?_⟩
  have rB := hb.neB hrl
  have rd := hb.neD hrl
  generalize hH3 : upd H rl (.lst []) = H3
  have hrl3 : H3 rl = some (.lst []) := by rw [← hH3]; exact upd_same
  have b3 : Box H3 B d := by rw [← hH3]; exact hb.new hrl _
  have G03 : Go B H H3 := by rw [← hH3]; exact Go.new hrl _
  obtain ⟨ob3, hB3⟩ := b3.isB
  refine ⟨by show 2 ≤ sizeLine; decide, fun l hl => ?_⟩
  have lB := b3.neB hl
  have lrl : l ≠ rl := (ne_of_none hrl3 hl).symm
  refine ⟨l, rfl, ⟨_, SqL.of upd_same⟩, ?_⟩
  have G3 := Go.new (B := B) hl (.lst [.str "one", .str "few"])
  refine for_list (xs := [.str "one", .str "few"]) (fun i σ H' => ∃ (x : List Rule) (vs : List V) (o2 o3 o4 o5 o6 : Option V), σ = [some (.ref B), some (.ref rl), o2, o3, o4, o5, o6] ∧ Go B H H' ∧ (∀ b, H' b = none → H3 b = none) ∧ Box H' B d ∧ H' rl = some (.lst vs) ∧ A2 (RuAt (fr H3 H')) x vs ∧ vs.length ≤ i ∧ H' l = some (.lst [.str "one", .str "few"]) ∧ (x.map (·.1)).Sublist ((["one", "few"] : List Str).take i) ∧ (∀ r ∈ x, ConOk r.2) ∧ ∀ r ∈ x, ∀ row ∈ r.2, ∀ z ∈ row, Rl43 z)
    ⟨[], [], _, _, _, _, _, rfl, G03.trans G3, G3.dom, b3.new hl _, G3.ext _ _ rB hrl3, rfl, Nat.le_refl _, upd_same, List.nil_sublist _, fun r h => (by cases h), fun r h => (by cases h)⟩ (fun i σ H' _ ⟨x, vs, o2, o3, o4, o5, o6, _, _, _, _, _, _, _, e, _⟩ => SqL.of e) ?_ ?_
  · rintro i y σ H5 hx ⟨x, vs, o2, o3, o4, o5, o6, rfl, g5, dm, b5, hrl5, ha5, hlen, hl5, hsub, hco, h43⟩
    have hi : i < 2 := get_lt hx
    have hy : ∃ c, y = V.str c ∧ (["one", "few"] : List Str)[i]? = some c := by
      have h5 : ([.str "one", .str "few"] : List V) = (["one", "few"] : List Str).map V.str := rfl
      rw [h5, List.getElem?_map] at hx
      cases hc : (["one", "few"] : List Str)[i]? with
      | none => rw [hc] at hx; cases hx
      | some c => rw [hc] at hx; cases hx; exact ⟨c, rfl, rfl⟩
    obtain ⟨c, rfl, hci⟩ := hy
    have htk : (["one", "few"] : List Str).take (i + 1) = (["one", "few"] : List Str).take i ++ [c] := by rw [List.take_succ, hci]; rfl
    refine ⟨_, rfl, B, d, 3, rfl, by decide, b5, fun u H6 u0 u2 g6 b6 => ⟨_, _, rfl, rfl, _, rfl, ?_⟩⟩
    have hrl6 := g6.ext _ _ rB hrl5
    have hl6 := g6.ext _ _ lB hl5
    refine ite2 (fun cc => ?_) (fun cc => ?_)
    · refine ⟨Nat.zero_le _, fun cl hcl => ?_⟩
      have cB := b6.neB hcl
      have cd := b6.neD hcl
      have crl : cl ≠ rl := (ne_of_none hrl6 hcl).symm
      have clH3 : H3 cl = none := dm cl (g6.dom cl hcl)
      generalize hH7 : upd H6 cl (.lst []) = H7
      have hcl7 : H7 cl = some (.lst []) := by rw [← hH7]; exact upd_same
      have b7 : Box H7 B d := by rw [← hH7]; exact b6.new hcl _
      have G67 : Go B H6 H7 := by rw [← hH7]; exact Go.new hcl _
      have h7none : ∀ b, H7 b = none → H3 b = none := fun b hb => dm b (g6.dom b (G67.dom b hb))
      obtain ⟨ob7, hB7⟩ := b7.isB
      refine ⟨_, rfl, B, d, 4, rfl, by decide, b7, fun u H8 u0 u2 g8 b8 => ⟨rfl, .inr ⟨_, rfl, _, _, rfl, rfl, ?_⟩⟩⟩
      have hm : ∃ n : Nat, (1 + (if decide (V.int u = V.int 0) = true then 1 else 0) : Int) = n ∧ 1 ≤ n ∧ n ≤ 2 := by
        split
        · exact ⟨2, rfl, by decide, by decide⟩
        · exact ⟨1, rfl, by decide, by decide⟩
      obtain ⟨n, hn, hn1, hn2⟩ := hm
      refine ⟨n, by rw [← hn], by omega, by omega, for_range (lo := 0) (n := (n : Int).toNat) (fun j σ H' => ∃ (r : List (List Rel)) (ws : List V) (o4 o5 o6 : Option V), σ = [some (.ref B), some (.ref rl), some (.str c), some (.ref cl), o4, o5, o6] ∧ Go B H6 H' ∧ (∀ b, H' b = none → H7 b = none) ∧ Box H' B d ∧ H' cl = some (.lst ws) ∧ A2 (RowAt (fr H7 H')) r ws ∧ ws.length = j ∧ (∀ row ∈ r, row ≠ [] ∧ row.length ≤ 2 ∧ ∀ z ∈ row, RelOk z) ∧ ∀ row ∈ r, ∀ z ∈ row, Rl43 z)
        ⟨[], [], _, _, _, rfl, G67.trans g8, g8.dom, b8, g8.ext _ _ cB hcl7, rfl, rfl, fun z h => (by cases h), fun z h => (by cases h)⟩ ?_ ?_⟩
      · rintro j σ H9 hj ⟨r, ws, o4, o5, o6, rfl, g9, dm9, b9, hcl9, ha9, hl9, hz9, h49⟩
        refine ⟨_, rfl, B, d, 4, rfl, by decide, b9, fun lo HA lo0 lo4 gA bA => ?_⟩
        refine ⟨_, rfl, _, rfl, B, d, 2, rfl, by decide, bA, fun dl HB dl0 dl2 gB bB => ⟨_, _, rfl, rfl, ?_⟩⟩
        have G9B := gA.trans gB
        have hclB := G9B.ext _ _ cB hcl9
        refine ⟨_, rfl, .inl ⟨rfl, _, SqL.of hclB⟩, ?_⟩
        refine ⟨by show 6 ≤ sizeLine; decide, fun l1 hl1 => ?_⟩
        have l1B := bB.neB hl1
        have bC := bB.new hl1 (.lst [.int 0, .int 0, .int 2, .int 3, .int 4, .int 6])
        have gC := Go.new (B := B) hl1 (.lst [.int 0, .int 0, .int 2, .int 3, .int 4, .int 6])
        refine ⟨_, rfl, B, d, 6, rfl, by decide, bC, fun z HD z0 z6 gD bD' => ?_⟩
        obtain ⟨m, hm, hat⟩ := pick (l := ([0, 0, 2, 3, 4, 6] : List Int)) (g := V.int) (z := z) z0 (by show z < ((6 : Nat) : Int); omega)
        have hm0 : 0 ≤ m := (by decide : ∀ m ∈ ([0, 0, 2, 3, 4, 6] : List Int), 0 ≤ m) m hm
        have hmk : m = 0 ∨ (2 ≤ m ∧ m ≤ 100 ∧ m ∣ 300) := (by decide : ∀ m ∈ ([0, 0, 2, 3, 4, 6] : List Int), m = 0 ∨ (2 ≤ m ∧ m ≤ 100 ∧ m ∣ 300)) m hm
        have hm4 : m = 0 ∨ m = 2 ∨ m = 3 ∨ m = 4 ∨ m = 6 := (by decide : ∀ m ∈ ([0, 0, 2, 3, 4, 6] : List Int), m = 0 ∨ m = 2 ∨ m = 3 ∨ m = 4 ∨ m = 6) m hm
        refine ⟨l1, _, z, .int m, rfl, rfl, SqL.of (gD.ext _ _ l1B upd_same), hat, ?_⟩
        refine ⟨_, rfl, B, d, 5, rfl, by decide, bD', fun v HE v0 v5 gE bE => ⟨_, _, rfl, rfl, _, rfl, _, rfl, by show 2 ≤ sizeLine; decide, fun p1 hp1 => ?_⟩⟩
        refine ⟨by show 1 ≤ sizeLine; decide, fun l2 hl2 => ⟨by show 3 ≤ sizeLine; decide, fun p2 hp2 => ⟨by show 1 ≤ sizeLine; decide, fun l3 hl3 => ?_⟩⟩⟩
        have G9E := ((G9B.trans gC).trans gD).trans gE
        have e1 := Go.new (B := B) hp1 (.tup [.int lo, .int (lo + dl)])
        have c1 := bE.new hp1 (.tup [.int lo, .int (lo + dl)])
        generalize hF1 : upd HE p1 (.tup [.int lo, .int (lo + dl)]) = F1 at e1 c1 hl2 hp2 hl3
        have e2 := Go.new (B := B) hl2 (.lst [.ref p1])
        have c2 := c1.new hl2 (.lst [.ref p1])
        generalize hF2 : upd F1 l2 (.lst [.ref p1]) = F2 at e2 c2 hp2 hl3
        have e3 := Go.new (B := B) hp2 (.tup [.int m, .bl (decide (0 < v)), .ref l2])
        have c3 := c2.new hp2 (.tup [.int m, .bl (decide (0 < v)), .ref l2])
        have hF3 : ∃ F3, F3 = upd F2 p2 (.tup [.int m, .bl (decide (0 < v)), .ref l2]) := ⟨_, rfl⟩
        obtain ⟨F3, hF3⟩ := hF3
        have hl3' : F3 l3 = none := by rw [hF3]; exact hl3
        rw [← hF3] at e3 c3
        have e4 := Go.new (B := B) hl3' (.lst [.ref p2])
        have c4 := c3.new hl3' (.lst [.ref p2])
        have hF4 : ∃ F4, F4 = upd F3 l3 (.lst [.ref p2]) := ⟨_, rfl⟩
        obtain ⟨F4, hF4⟩ := hF4
        rw [← hF4] at e4 c4
        have P1 : F4 p1 = some (.tup [.int lo, .int (lo + dl)]) := (e2.trans (e3.trans e4)).ext _ _ (bE.neB hp1) (by rw [← hF1]; exact upd_same)
        have P2 : F4 l2 = some (.lst [.ref p1]) := (e3.trans e4).ext _ _ (c1.neB hl2) (by rw [← hF2]; exact upd_same)
        have P3 : F4 p2 = some (.tup [.int m, .bl (decide (0 < v)), .ref l2]) := e4.ext _ _ (c2.neB hp2) (by rw [hF3]; exact upd_same)
        have P4 : F4 l3 = some (.lst [.ref p2]) := by rw [hF4]; exact upd_same
        have G94 : Go B H9 F4 := (((G9E.trans e1).trans e2).trans e3).trans e4
        have n1 : H7 p1 = none := dm9 _ (G9E.dom _ hp1)
        have n2 : H7 l2 = none := dm9 _ ((G9E.trans e1).dom _ hl2)
        have n3 : H7 p2 = none := dm9 _ (((G9E.trans e1).trans e2).dom _ hp2)
        have n4 : H7 l3 = none := dm9 _ ((((G9E.trans e1).trans e2).trans e3).dom _ hl3')
        have hcl4 := G94.ext _ _ cB hcl9
        have hh : upd (upd F2 p2 (.tup [.int m, .bl (decide (0 < v)), .ref l2])) l3 (.lst [.ref p2]) = F4 := by rw [hF4, hF3]
        refine ⟨cl, ws, _, rfl, rfl, by rw [hh]; exact hcl4, sz_line (by omega), ?_⟩
        rw [hh]
        refine ⟨r ++ [[(m, decide (0 < v), [(lo, lo + dl)])]], ws ++ [.ref l3], _, _, _, rfl, (g9.trans G94).mut hcl _, fun b hb => dm9 b (G94.dom b (upd_none hb)), c4.mut cB cd _, upd_same, ?_, by rw [List.length_append, hl9]; rfl, ?_, ?_⟩
        · refine A2.snoc (ha9.mono fun x v h => RowAt.same ((fr_go hB7 G94).trans (fr_mut hcl7 _)) x v h) ?_
          have S4 : Same (fr H7 F4) (fr H7 (upd F4 cl (.lst (ws ++ [.ref l3])))) := fr_mut hcl7 _
          refine RowAt.same S4 _ _ ⟨l3, [.ref p2], rfl, fr_new_obj n4 P4, A2.one ⟨p2, .ref l2, rfl, fr_new_obj n3 P3, ⟨l2, [.ref p1], rfl, fr_new_obj n2 P2, A2.one ⟨p1, rfl, fr_new_obj n1 P1⟩, by show 1 < 100000; decide⟩, hm0⟩, by show 1 < 100000; decide⟩
        · intro row hrow
          rcases List.mem_append.mp hrow with h | h
          · exact hz9 row h
          · rw [List.mem_singleton] at h
            subst h
            refine ⟨by simp, by simp, fun z' hz' => ?_⟩
            rw [List.mem_singleton] at hz'
            subst hz'
            refine ⟨hmk, by simp, by simp, fun r' hr' => ?_⟩
            rw [List.mem_singleton.mp hr']
            exact ⟨lo0, by show lo ≤ lo + dl; omega, by show lo + dl ≤ 20; omega⟩
        · intro row hrow
          rcases List.mem_append.mp hrow with h | h
          · exact h49 row h
          · rw [List.mem_singleton] at h
            subst h
            intro z' hz'
            rw [List.mem_singleton] at hz'
            subst hz'
            refine ⟨hm4, fun r' hr' => ?_⟩
            rw [List.mem_singleton.mp hr']
            show lo + dl ≤ 4
            omega
      · rintro σ H9 ⟨r, ws, o4, o5, o6, rfl, g9, dm9, b9, hcl9, ha9, hl9, hz9, h49⟩
        have G59 := g6.trans g9
        have hrl9 := G59.ext _ _ rB hrl5
        refine ⟨_, rfl, .inl ⟨rfl, _, SqL.of hrl9⟩, _, rfl, _, rfl, by show 2 ≤ sizeLine; decide, fun p hp => ?_⟩
        have eB := Go.new (B := B) hp (.tup [.str c, .ref cl])
        have G5 := G59.trans eB
        have h3p : H3 p = none := dm p (G59.dom p hp)
        have prl : p ≠ rl := by rintro rfl; rw [hrl3] at h3p; cases h3p
        have hcl' : fr H3 (upd (upd H9 p (.tup [.str c, .ref cl])) rl (.lst (vs ++ [.ref p]))) cl = some (.lst ws) := fr_new_obj clH3 (by rw [upd_ne crl]; exact eB.ext _ _ cB hcl9)
        have hrn : r.length = n := by
          have := ha9.length
          rw [hl9] at this
          exact this.symm
        refine ⟨rl, vs, _, rfl, rfl, G5.ext _ _ rB hrl5, sz_line (by omega), x ++ [(c, r)], _, _, _, _, _, _, rfl, (g5.trans G5).mut hrl _, fun b hb => dm b (G5.dom b (upd_none hb)), (b9.new hp _).mut rB rd _, upd_same, ?_, by rw [List.length_append]; show vs.length + 1 ≤ i + 1; omega, by rw [upd_ne lrl]; exact G5.ext _ _ lB hl5, by rw [List.map_append, htk]; exact hsub.append (List.Sublist.refl _), fun r' hr' => (List.mem_append.mp hr').elim (hco r') fun h => List.mem_singleton.mp h ▸ ⟨fun e => ?_, by rw [hrn]; exact hn2, hz9⟩, fun r' hr' => (List.mem_append.mp hr').elim (h43 r') fun h => List.mem_singleton.mp h ▸ h49⟩
        · refine A2.snoc (ha5.mono fun x v h => RuAt.same ((fr_go hB3 G5).trans (fr_mut hrl3 _)) x v h) ⟨p, .ref cl, rfl, fr_new_obj h3p (by rw [upd_ne prl]; exact upd_same), ?_⟩
          refine ⟨cl, ws, rfl, hcl', ha9.mono fun x v h => ?_, by omega⟩
          exact RowAt.same ((fr_dom h7none).trans ((fr_go hB3 eB).trans (fr_mut hrl3 _))) x v h
        · have e : r = [] := e
          rw [e] at hrn
          simp at hrn
          omega
    · exact ⟨x, vs, _, _, _, _, _, rfl, g5.trans g6, fun b hb => dm b (g6.dom b hb), b6, hrl6, ha5.mono fun x v h => RuAt.same (fr_go hB3 g6) x v h, by omega, hl6, by rw [htk]; exact hsub.trans (List.sublist_append_left _ _), hco, h43⟩
  · rintro σ H5 ⟨x, vs, o2, o3, o4, o5, o6, rfl, g5, dm, b5, hrl5, ha5, hlen, hl5, hsub, hco, h43⟩
    obtain ⟨ob0, hB0⟩ := hb.isB
    have hvl : vs.length ≤ 2 := hlen
    have hrs : RusAt (fr H H5) x (.ref rl) := ⟨rl, vs, rfl, fr_new_obj hrl hrl5, ha5.mono fun x v h => RuAt.same (fr_dom G03.dom) x v h, by omega⟩
    refine ⟨_, rfl, fun o dx ho hdx ne => ?_⟩
    have S2 : Same H5 (upd (upd H5 dx (.own o)) o (.ins C dx [])) := same_mut (same_new hdx _) ho _
    have i2 : In [B] (upd (upd H5 dx (.own o)) o (.ins C dx [])) := fun b hb => by
      rw [List.mem_singleton] at hb
      subst hb
      exact (b5.same S2).isB
    refine ⟨o, dx, .ref rl, x, [B], rfl, upd_same, i2, hrs.same ((fr_hids hB0).trans (hids_add ho S2)), fun q3 H6 k3 ho3 hq3 => ⟨rfl, ?_⟩⟩
    have S3 : Same H5 H6 := fun b u h => k3 b u (S2 b u h) (by rintro rfl; rw [ho] at h; cases h)
    refine q o dx q3 x H6 (g5.trans (Go.same S3)) (b5.same S3) (g5.dom _ ho) ho3 (hq3.same hids_drop) ⟨hsub.trans (by decide), hco⟩ ⟨hsub, h43⟩
end
end Mw

set_option maxHeartbeats 1000000
namespace Mw
open PySem L2
abbrev rLe43 : R2 := rI0 fun i j => .bl (decide (i ≤ j))
def ones (k : Nat) : List PyData := List.replicate k (.int 1)
theorem dp_ones {K : PySem.W.Frag} {H : Hp} : ∀ k : Nat, DpAll K H (List.replicate k (V.int 1)) (ones k)
  | 0 => .nil
  | k + 1 => .cons (.int 1) (dp_ones k)
theorem shp_ones : ∀ {k : Nat}, k ≤ 3 → SeqAt.shaped (.list (ones k)) = true
  | 0, _ => by decide +kernel
  | 1, _ => by decide +kernel
  | 2, _ => by decide +kernel
  | 3, _ => by decide +kernel
  | k + 4, h => by omega
theorem eqv_ones : ∀ k : Nat, PyData.eqv (.list (ones k)) (.list []) = decide (k = 0)
  | 0 => rfl
  | k + 1 => rfl
theorem conB_drop {n : Int} {x : List (List Rel)} {i : Nat} {r : List Rel} (h : x[i]? = some r) : conB n (x.drop i) = (r.all (relB n) || conB n (x.drop (i + 1))) := by
  have e : x.drop i = r :: x.drop (i + 1) := by
    rw [List.drop_eq_getElem_cons (get_lt h)]
    obtain ⟨_, h2⟩ := List.getElem?_eq_some_iff.mp h
    rw [h2]
  rw [e]
  rfl
theorem catB_drop {n : Int} {x : List Rule} {i : Nat} {r : Rule} (h : x[i]? = some r) : catB n (x.drop i) = if conB n r.2 = true then r.1 else catB n (x.drop (i + 1)) := by
  have e : x.drop i = r :: x.drop (i + 1) := by
    rw [List.drop_eq_getElem_cons (get_lt h)]
    obtain ⟨_, h2⟩ := List.getElem?_eq_some_iff.mp h
    rw [h2]
  rw [e]
  rfl
section
variable {P : Program} {w : World} {K : PySem.W.Frag} {mg : Str → Option Value} {base : Heap} {C : Addr}
/-! ### _law_category -/
abbrev sLc : Stmt := top 44
abbrev nLc : List Str := ["language", "number", "category", "condition", "row", "fine", "modulus", "inside", "ranges", "value", "low", "high"]
theorem scLc : FnScope nLc ["language", "number"] (defScope sLc) := ⟨rfl, rfl, rfl, by decide +kernel, rfl, by decide +kernel, by decide +kernel⟩
def spLc (C : Addr) : Sp := fun vs H Q _ => ∃ (v : V) (rs : List Rule) (n : Int), vs = [v, .int n] ∧ LanAt C H rs v ∧ LanOk rs ∧ ∀ H', Same H H' → Q (.str (catN rs n)) H'
theorem ok_lc {f : Addr} {fd : FuncData} (F : Fun K "_law_category" "_law_category" sLc f fd) (L : LC K C) (mi : mg "int" = none) : FnOk P w K mg base CX0 1 f fd ["language", "number"] (spLc C) := by
  refine F.ok scLc (fun vs H Q E h => ?_) (fun cdv A outer s H vs Q E hr h => ?_)
  · obtain ⟨v, x, n, rfl, _⟩ := h
    rfl
  obtain ⟨v, rs, n, rfl, ⟨o, dx, qv, rfl, ho, ⟨r, rvs, rfl, hr1, ha, hl⟩⟩, hok, q⟩ := h
  have nd := scLc.nd
  refine ⟨_, (pss_cons (ps_if (pt_cmpR op_ge (pv 1) pe_int (nomark _)) (pss_one (ps_for PassesOwn.never rfl (pi_list (pe_fld (pv 0) rfl)) (pg_tup rfl (pgs_cons (pg_name (i := 2) nd rfl (.inl rfl)) (pgs_cons (pg_name (i := 3) nd rfl (.inl rfl)) pgs_nil))) (pss_one (ps_for PassesOwn.never rfl (pi_list (pv 3)) (pg_name (i := 4) nd rfl (.inl rfl)) (pss_cons (ps_set (i := 5) nd rfl (.inl rfl) pe_bl)
      (pss_cons (ps_for PassesOwn.never rfl (pi_list (pv 4)) (pg_tup rfl (pgs_cons (pg_name (i := 6) nd rfl (.inl rfl)) (pgs_cons (pg_name (i := 7) nd rfl (.inl rfl)) (pgs_cons (pg_name (i := 8) nd rfl (.inl rfl)) pgs_nil)))) (pss_cons (ps_set (i := 9) nd rfl (.inr rfl) (pv 1))
      (Evl.pss_cut (ps_if (pt_cmpR op_gt (pv 6) pe_int (nomark _)) (pss_one (ps_set (i := 9) nd rfl (.inr rfl) (pe_op op_mod (pe_callTy call_int1 (by rfl) mi (by decide +kernel) (pa_cons (pv 1) pa_nil)) (pv 6)))) pss_nil)
      (pss_one (ps_if (pt_cmpR op_ne (pe_cmpR (op_neD hr.units) (pe_lc (own := [("low", 10), ("high", 11)]) (g := (gTup K 2 (gCons (gName 10) (gCons (gName 11) gNil))))  (tt := tTest (tChain rLe43 rLe43 (tVar 10) (tVar 9) (tVar 11))) (te := tC (.int 1)) rfl nd (pi_list (pv 8)) (blkOk_by (N := nLc) (sc := defScope sLc) (by decide +kernel)) (fun _ _ _ _ _ => (pg_tup rfl (pgs_cons (pg_name (i := 10) nd rfl (.inl rfl)) (pgs_cons (pg_name (i := 11) nd rfl (.inl rfl)) pgs_nil)))) (fun _ _ _ _ _ => (pts_one (pt_chain op_le op_le (pv 10) (pv 9) (pv 11)))) (fun _ _ _ _ _ => pe_int)) (pe_lst pa_nil) (nomark _)) (pv 7) (nomark _)) (pss_one (ps_set (i := 5) nd rfl (.inl rfl) pe_bl)) pss_nil)))))
      (pss_one (ps_if (pt_val (pv 5)) (pss_one (ps_ret (pv 2))) pss_nil)))))))) pss_nil)
      (pss_one (ps_ret pe_str))), ?_⟩
  refine ⟨_, rfl, _, _, rfl, rfl, _, rfl, ?_⟩
  refine ite2 (fun c => ?_) (fun c => ?_)
  · have c' : ¬ n < 0 := by
      have := of_decide_eq_true c
      omega
    have e : catN rs n = catB n rs := by unfold catN; rw [if_neg c']
    rw [e] at q
    refine ⟨_, rfl, o, C, dx, _, .ref r, rfl, ho, L.c, L.nr, rfl, r, rfl, ⟨_, SqL.of hr1⟩, ?_⟩
    refine for_list (xs := rvs) (fun i σ H' => Same H H' ∧ (∃ o2 o3 o4 o5 o6 o7 o8 o9, σ = [some (.ref o), some (.int n), o2, o3, o4, o5, o6, o7, o8, o9, none, none]) ∧ catB n rs = catB n (rs.drop i)) ⟨fun _ _ h => h, ⟨_, _, _, _, _, _, _, _, rfl⟩, rfl⟩ (fun i σ H' _ ⟨s', _⟩ => SqL.of (s' _ _ hr1)) ?_ ?_
    · rintro i y σ H' hx ⟨s', ⟨o2, o3, o4, o5, o6, o7, o8, o9, rfl⟩, hcat⟩
      obtain ⟨⟨ct, con⟩, hz, p, cv, rfl, hp, ⟨rc, cvs, rfl, hrc, hac, hlc⟩⟩ := A2.get ha hx
      rw [catB_drop hz] at hcat
      have conOk : ConOk con := hok.2 _ (List.mem_of_getElem? hz)
      refine ⟨p, _, rfl, .inl (.inl (s' _ _ hp)), rfl, .str ct, _, rfl, .ref rc, [], rfl, rfl, ?_⟩
      have hrc' := s' _ _ hrc
      refine ⟨_, rfl, rc, rfl, ⟨_, SqL.of hrc'⟩, ?_⟩
      refine for_list (xs := cvs) (fun k σ H2 => Same H' H2 ∧ (∃ o4 o5 o6 o7 o8 o9, σ = [some (.ref o), some (.int n), some (.str ct), some (.ref rc), o4, o5, o6, o7, o8, o9, none, none]) ∧ conB n con = conB n (con.drop k)) ⟨fun _ _ h => h, ⟨_, _, _, _, _, _, rfl⟩, rfl⟩ (fun i σ H2 _ ⟨s2, _⟩ => SqL.of (s2 _ _ hrc')) ?_ ?_
      · rintro k y2 σ H2 hx2 ⟨s2, ⟨o4, o5, o6, o7, o8, o9, rfl⟩, hcon⟩
        obtain ⟨row, hz2, rr, wvs, rfl, hrr, har, hlr⟩ := A2.get hac hx2
        rw [conB_drop hz2] at hcon
        have rowOk := conOk.2.2 _ (List.mem_of_getElem? hz2)
        have hrr' := s2 _ _ (s' _ _ hrr)
        refine ⟨_, rfl, rr, rfl, ⟨_, SqL.of hrr'⟩, ?_⟩
        refine for_list (xs := wvs) (fun j σ H3 => Same H2 H3 ∧ (∃ g o6 o7 o8 o9, g = (row.take j).all (relB n) ∧ σ = [some (.ref o), some (.int n), some (.str ct), some (.ref rc), some (.ref rr), some (.bl g), o6, o7, o8, o9, none, none])) ⟨fun _ _ h => h, ⟨_, _, _, _, _, rfl, rfl⟩⟩ (fun i σ H3 _ ⟨s3, _⟩ => SqL.of (s3 _ _ hrr')) ?_ ?_
        · rintro j y3 σ H3 hx3 ⟨s3, ⟨g, o6, o7, o8, o9, eg, rfl⟩⟩
          obtain ⟨⟨m, ins, rgs⟩, hz3, p2, qv2, rfl, hp2, ⟨ra, gvs, rfl, hra, hag, hlg⟩, hm⟩ := A2.get har hx3
          have hm' : 0 ≤ m := hm
          have relOk : RelOk (m, ins, rgs) := rowOk.2.2 _ (List.mem_of_getElem? hz3)
          have s03 := (s'.trans s2).trans s3
          refine ⟨p2, _, rfl, .inl (.inl (s03 _ _ hp2)), rfl, .int m, _, rfl, .bl ins, _, rfl, .ref ra, [], rfl, rfl, ?_⟩
          refine ⟨_, rfl, fun σ' H4 => H4 = H3 ∧ σ' = [some (.ref o), some (.int n), some (.str ct), some (.ref rc), some (.ref rr), some (.bl g), some (.int m), some (.bl ins), some (.ref ra), some (.int (lookN m n)), none, none], ?_, ?_⟩
          · refine ⟨_, rfl, _, _, rfl, rfl, _, rfl, ?_⟩
            refine ite2 (fun c => ?_) (fun c => ?_)
            · have c' := of_decide_eq_true c
              have e : lookN m n = n % m := by unfold lookN; rw [if_neg (by omega)]
              refine ⟨_, rfl, .inl ⟨n, rfl, _, rfl, _, _, rfl, rfl, c', ?_⟩⟩
              rw [e]
              exact ⟨rfl, rfl⟩
            · have c' := of_decide_eq_false (Bool.eq_false_iff.mpr c)
              have e : lookN m n = n := by unfold lookN; rw [if_pos (by omega)]
              rw [e]
              exact ⟨rfl, rfl⟩
          rintro σ' H4 ⟨rfl, rfl⟩
          have hra' := s03 _ _ hra
          refine ⟨_, rfl, ra, rfl, ⟨_, SqL.of hra'⟩, fun D hD => ?_⟩
          refine lc_list (xs := gvs) (fun k H5 => ∃ cnt, Same H4 H5 ∧ H5 D = some (.lst (List.replicate cnt (V.int 1))) ∧ cnt ≤ k ∧ decide (cnt = 0) = !(rgs.take k).any (rgB (lookN m n))) ⟨0, same_new hD _, upd_same, Nat.le_refl _, rfl⟩ (fun i H5 _ ⟨_, s5, _⟩ => SqL.of (s5 _ _ hra')) ?_ ?_
          · rintro k2 y4 H5 hx4 ⟨cnt, s5, hD5, hck, hany⟩
            obtain ⟨⟨lo, hi⟩, hz4, t, rfl, ht⟩ := A2.get hag hx4
            have e := any_take (rgB (lookN m n)) hz4
            have hgl := get_lt hx4
            refine ⟨t, _, rfl, .inl (.inl (s5 _ _ (s03 _ _ ht))), rfl, .int lo, _, rfl, .int hi, [], rfl, rfl, rfl, ?_⟩
            refine ⟨_, rfl, _, rfl, _, _, rfl, rfl, _, rfl, ?_⟩
            refine ite2 (fun c => ?_) (fun c => ?_)
            · refine ⟨_, rfl, _, _, rfl, rfl, _, rfl, ?_⟩
              refine ite2 (fun c2 => ?_) (fun c2 => ?_)
              · have h1 : rgB (lookN m n) (lo, hi) = true := by
                  unfold rgB
                  rw [show decide (lo ≤ lookN m n) = true from c, show decide (lookN m n ≤ hi) = true from c2]
                  rfl
                refine ⟨_, hD5, sz_line (by rw [List.length_replicate]; omega), cnt + 1, same_mut s5 hD _, ?_, by omega, ?_⟩
                · rw [upd_same, List.replicate_succ']
                · rw [e, h1, Bool.or_true]
                  rfl
              · have h1 : rgB (lookN m n) (lo, hi) = false := by
                  unfold rgB
                  rw [show decide (lookN m n ≤ hi) = false from Bool.eq_false_iff.mpr c2, Bool.and_false]
                refine ⟨cnt, s5, hD5, by omega, ?_⟩
                rw [e, h1, Bool.or_false]
                exact hany
            · have h1 : rgB (lookN m n) (lo, hi) = false := by
                unfold rgB
                rw [show decide (lo ≤ lookN m n) = false from Bool.eq_false_iff.mpr c, Bool.false_and]
              refine ⟨_, rfl, ?_⟩
              refine iteF ⟨cnt, s5, hD5, by omega, ?_⟩
              rw [e, h1, Bool.or_false]
              exact hany
          rintro H5 ⟨cnt, s5, hD5, hck, hany⟩
          have e1 : rgs.length = gvs.length := hag.length.symm
          rw [← e1, List.take_length] at hany
          have h3 : rgs.length ≤ 3 := relOk.2.2.1
          refine ⟨Nat.zero_le _, fun l0 hl0 => ?_⟩
          have s6 : Same H5 (upd H5 l0 (.lst [])) := same_new hl0 _
          have d1 : Dp K (upd H5 l0 (.lst [])) (.ref D) (.list (ones cnt)) := .lst (SqL.of (s6 _ _ hD5)) (dp_ones cnt)
          have d2 : Dp K (upd H5 l0 (.lst [])) (.ref l0) (.list []) := .lst (SqL.of upd_same) .nil
          refine ⟨_, _, d1, d2, shp_ones (by omega), by decide +kernel, _, rfl, rfl, _, rfl, ?_⟩
          rw [eqv_ones, hany]
          have e := all_take (relB n) hz3
          have e2 : relB n (m, ins, rgs) = (ins == rgs.any (rgB (lookN m n))) := rfl
          rw [e2, ← eg] at e
          have s46 := s5.trans s6
          cases hb : rgs.any (rgB (lookN m n)) <;> cases ins <;> rw [hb] at e
          · exact ⟨s3.trans s46, _, _, _, _, _, by rw [e]; simp, rfl⟩
          · exact ⟨s3.trans s46, _, _, _, _, _, by rw [e]; simp, rfl⟩
          · exact ⟨s3.trans s46, _, _, _, _, _, by rw [e]; simp, rfl⟩
          · exact ⟨s3.trans s46, _, _, _, _, _, by rw [e]; simp, rfl⟩
        · rintro σ H3 ⟨s3, ⟨g, o6, o7, o8, o9, eg, rfl⟩⟩
          have e1 : row.length = wvs.length := har.length.symm
          rw [← e1, List.take_length] at eg
          subst eg
          refine ⟨_, rfl, _, rfl, ?_⟩
          cases hb : row.all (relB n) with
          | true =>
            rw [hb, Bool.true_or] at hcon
            rw [if_pos (show conB n (ct, con).2 = true from hcon)] at hcat
            have q' := q H3 ((s'.trans s2).trans s3)
            rw [hcat] at q'
            refine ⟨_, rfl, ?_⟩
            exact q'
          | false =>
            rw [hb, Bool.false_or] at hcon
            exact ⟨s2.trans s3, ⟨_, _, _, _, _, _, rfl⟩, hcon⟩
      · rintro σ H2 ⟨s2, ⟨o4, o5, o6, o7, o8, o9, rfl⟩, hcon⟩
        rw [show con.drop cvs.length = [] from List.drop_eq_nil_of_le (Nat.le_of_eq hac.length.symm)] at hcon
        rw [if_neg (show ¬ conB n (ct, con).2 = true by rw [show conB n (ct, con).2 = false from hcon]; exact Bool.false_ne_true)] at hcat
        exact ⟨s'.trans s2, ⟨_, _, _, _, _, _, _, _, rfl⟩, hcat⟩
    · rintro σ H' ⟨s', ⟨o2, o3, o4, o5, o6, o7, o8, o9, rfl⟩, hcat⟩
      rw [show rs.drop rvs.length = [] from List.drop_eq_nil_of_le (Nat.le_of_eq ha.length.symm)] at hcat
      have q' := q H' s'
      rw [hcat] at q'
      exact q'
  · have c' : n < 0 := by
      have := of_decide_eq_false (Bool.eq_false_iff.mpr c)
      omega
    have e : catN rs n = "other" := by unfold catN; rw [if_pos c']
    rw [e] at q
    exact q H fun _ _ h => h
end
end Mw

set_option maxHeartbeats 1000000
namespace Mw
open PySem L2
/-! ### forty numbers settle what is left out -/
def lfB (rs : List Rule) (off : Nat) (ks : List V) (c : Str) : Bool := !inV (.str c) ks && ((List.range 40).filter fun n : Nat => decide (catN rs ((n : Int) - off) = c)).any fun n : Nat => !inV (.int (n : Int)) ks
theorem emod_congr {m : Int} (hm : m = 0 ∨ m = 2 ∨ m = 3 ∨ m = 4 ∨ m = 6) {a b : Int} (h : (a - b) % 12 = 0) (h0 : m ≠ 0) : a % m = b % m := by
  rcases hm with rfl | rfl | rfl | rfl | rfl
  · exact absurd rfl h0
  all_goals omega
theorem relB_far {x : Rel} (hx : Rl43 x) {a b : Int} (ha : 5 ≤ a) (hb : 5 ≤ b) (h : (a - b) % 12 = 0) : relB a x = relB b x := by
  obtain ⟨m, ins, rgs⟩ := x
  obtain ⟨hm, hr⟩ := hx
  have hm : m = 0 ∨ m = 2 ∨ m = 3 ∨ m = 4 ∨ m = 6 := hm
  have hr : ∀ r ∈ rgs, r.2 ≤ 4 := hr
  show (ins == rgs.any (rgB (lookN m a))) = (ins == rgs.any (rgB (lookN m b)))
  by_cases h0 : m = 0
  · subst h0
    have e : ∀ n : Int, 5 ≤ n → rgs.any (rgB (lookN 0 n)) = false := fun n hn => by
      rw [List.any_eq_false]
      intro r hr' z
      have := hr r hr'
      unfold rgB lookN at z
      rw [if_pos rfl, Bool.and_eq_true, decide_eq_true_eq, decide_eq_true_eq] at z
      omega
    rw [e a ha, e b hb]
  · have e : lookN m a = lookN m b := by
      unfold lookN
      rw [if_neg h0, if_neg h0]
      exact emod_congr hm h h0
    rw [e]
theorem any_congr' {α : Type} {l : List α} {f g : α → Bool} (h : ∀ x ∈ l, f x = g x) : l.any f = l.any g := by
  induction l with
  | nil => rfl
  | cons a l ih => rw [List.any_cons, List.any_cons, h a List.mem_cons_self, ih fun x hx => h x (List.mem_cons_of_mem _ hx)]
theorem all_congr' {α : Type} {l : List α} {f g : α → Bool} (h : ∀ x ∈ l, f x = g x) : l.all f = l.all g := by
  induction l with
  | nil => rfl
  | cons a l ih => rw [List.all_cons, List.all_cons, h a List.mem_cons_self, ih fun x hx => h x (List.mem_cons_of_mem _ hx)]
theorem catB_far {a b : Int} (ha : 5 ≤ a) (hb : 5 ≤ b) (h : (a - b) % 12 = 0) : ∀ {rs : List Rule}, (∀ r ∈ rs, ∀ row ∈ r.2, ∀ x ∈ row, Rl43 x) → catB a rs = catB b rs
  | [], _ => rfl
  | r :: rs, hx => by
    have e : conB a r.2 = conB b r.2 := any_congr' fun row hrow => all_congr' fun x hx' => relB_far (hx r List.mem_cons_self row hrow x hx') ha hb h
    rw [catB_cons, catB_cons, e, catB_far ha hb h fun r' hr' => hx r' (List.mem_cons_of_mem _ hr')]
theorem catN_far {rs : List Rule} (hl : Lan43 rs) {a b : Int} (ha : 5 ≤ a) (hb : 5 ≤ b) (h : (a - b) % 12 = 0) : catN rs a = catN rs b := by
  unfold catN
  rw [if_neg (by omega), if_neg (by omega)]
  exact catB_far ha hb h hl.2
theorem inV_int {ks : List V} (h : KOk ks) (n : Nat) : inV (.int (n : Int)) ks = true ↔ n ∈ iks ks := by
  unfold inV iks
  rw [List.any_eq_true, List.mem_filterMap]
  constructor
  · rintro ⟨k, hk, e⟩
    refine ⟨k, hk, ?_⟩
    rcases h k hk with ⟨s, rfl⟩ | ⟨i, rfl, h0, h1⟩
    · cases e
    · have e : i = (n : Int) := by simpa [eqV] using e
      show some i.toNat = some n
      rw [e]
      rfl
  · rintro ⟨k, hk, e⟩
    refine ⟨k, hk, ?_⟩
    rcases h k hk with ⟨s, rfl⟩ | ⟨i, rfl, h0, h1⟩
    · cases e
    · have e : i.toNat = n := Option.some.inj e
      have : i = (n : Int) := by omega
      simp [eqV, this]
theorem inV_other {ks : List V} {c : Str} (hc : c ≠ "other") : inV (.str c) (ks ++ [.str "other"]) = inV (.str c) ks := by
  unfold inV
  rw [List.any_append]
  have : List.any [V.str "other"] (fun y => eqV y (.str c)) = false := by
    have : eqV (V.str "other") (.str c) = false := by
      simp only [eqV]
      simpa using fun e => hc (by simpa using e.symm)
    simp [this]
  rw [this, Bool.or_false]
theorem lf_left {rs : List Rule} (hok : LanOk rs) (hl : Lan43 rs) {off : Nat} (ho : off ≤ 9) {ks : List V} (hk : KOk ks) : LeftIs rs off ks (lfB rs off ks) := by
  intro c f hcf
  obtain ⟨nN, nO⟩ := names_ok hok
  have hc : c ∈ rs.map (·.1) := by
    rw [← sE_keys rs fun _ => true]
    exact List.mem_map.mpr ⟨(c, f), hcf, rfl⟩
  have hco : c ≠ "other" := by
    obtain ⟨r, hr, rfl⟩ := List.mem_map.mp hc
    exact nO r hr
  have hf : ∀ n : Nat, f n = decide (catN rs (n : Int) = c) := fun n => by
    have e := sE_ok n rs _ nN nO (c, f) hcf
    rw [Bool.true_and] at e
    unfold catN
    rw [if_neg (by omega)]
    exact e
  rw [inV_other hco]
  unfold lfB
  rw [Bool.and_eq_true, Bool.not_eq_true', List.any_eq_true]
  have hmv : ∀ n : Nat, mvF f off n = true ↔ catN rs ((n : Int) - off) = c := fun n => by
    unfold mvF
    rw [Bool.and_eq_true, decide_eq_true_eq, hf, decide_eq_true_eq]
    constructor
    · rintro ⟨h1, h2⟩
      rw [show (n : Int) - off = ((n - off : Nat) : Int) by omega]
      exact h2
    · intro h2
      by_cases h1 : off ≤ n
      · refine ⟨h1, ?_⟩
        rw [show ((n - off : Nat) : Int) = (n : Int) - off by omega]
        exact h2
      · have : catN rs ((n : Int) - off) = "other" := by
          unfold catN
          rw [if_pos (by omega)]
        rw [this] at h2
        exact absurd h2.symm hco
  refine and_congr Iff.rfl ?_
  constructor
  · rintro ⟨n, hn, h2⟩
    rw [List.mem_filter, decide_eq_true_eq] at hn
    refine ⟨n, (hmv n).mpr hn.2, fun z => ?_⟩
    rw [(inV_int hk n).mpr z] at h2
    cases h2
  · rintro ⟨n, h1, h2⟩
    rw [hmv] at h1
    by_cases hn : n < 40
    · refine ⟨n, List.mem_filter.mpr ⟨List.mem_range.mpr hn, decide_eq_true h1⟩, ?_⟩
      cases hv : inV (.int (n : Int)) ks with
      | false => rfl
      | true => exact absurd ((inV_int hk n).mp hv) h2
    · refine ⟨24 + n % 12, List.mem_filter.mpr ⟨List.mem_range.mpr (by omega), decide_eq_true ?_⟩, ?_⟩
      · rw [← h1]
        exact catN_far hl (by omega) (by omega) (by omega)
      · cases hv : inV (.int ((24 + n % 12 : Nat) : Int)) ks with
        | false => rfl
        | true =>
          have := iks_le hk _ ((inV_int hk _).mp hv)
          omega
/-- what is left out is settled -/
theorem left_one {rs : List Rule} {off : Nat} {ks : List V} {b b' : Str → Bool} (h : LeftIs rs off ks b) (h' : LeftIs rs off ks b') : (rs.map (·.1)).filter b = (rs.map (·.1)).filter b' := by
  refine List.filter_congr fun c hc => ?_
  have : c ∈ (sE rs fun _ => true).map (·.1) := by rw [sE_keys]; exact hc
  obtain ⟨⟨c', f⟩, hf, e⟩ := List.mem_map.mp this
  have e : c' = c := e
  subst e
  rw [Bool.eq_iff_iff, h _ _ hf, h' _ _ hf]
end Mw

set_option maxHeartbeats 1000000
namespace Mw
open PySem L2
theorem topL_app : ∀ (xs ys : List T) (i : Nat) (p : List V), topL (xs ++ ys) i p = topL xs i p ++ topL ys (i + xs.length) p
  | [], ys, i, p => rfl
  | x :: xs, ys, i, p => by
    show (if x.isCho = true then _ else _) ++ topL (xs ++ ys) (i + 1) p = ((if x.isCho = true then _ else _) ++ topL xs (i + 1) p) ++ _
    rw [topL_app xs ys (i + 1) p, List.append_assoc, List.length_cons, show i + 1 + xs.length = i + (xs.length + 1) by omega]
/-- what is listed of the first nodes -/
def pre (t : T) (p : List V) (i : Nat) : Chs := (topL (t.nodes.take i) 0 p).flatMap expN
theorem pre_le (t : T) (p : List V) (hw : Wf t false) (i : Nat) : (pre t p i).length ≤ t.sz := by
  have e : t.ch 0 p = pre t p i ++ (topL (t.nodes.drop i) (0 + (t.nodes.take i).length) p).flatMap expN := by
    unfold pre
    rw [ch_top t 0 p hw, top_nodes t 0 p hw, ← List.flatMap_append, ← topL_app, List.take_append_drop]
  have h := ch_len t 0 p
  rw [e, List.length_append] at h
  omega
theorem pre_all (t : T) (p : List V) (hw : Wf t false) {n : Nat} (hn : n = t.nodes.length) : pre t p n = t.ch 0 p := by
  unfold pre
  rw [hn, List.take_length, ch_top t 0 p hw, top_nodes t 0 p hw]
theorem pre_snoc {t : T} {p : List V} {i : Nat} {u : T} (h : t.nodes[i]? = some u) : pre t p (i + 1) = pre t p i ++ (if u.isCho = true then expN (p ++ [.int (i : Nat)], u) else []) := by
  have hl : (t.nodes.take i).length = i := by
    have := get_lt h
    rw [List.length_take]
    omega
  unfold pre
  rw [List.take_succ, h]
  show (topL (t.nodes.take i ++ [u]) 0 p).flatMap expN = _
  rw [topL_snoc, List.flatMap_append, hl, Nat.zero_add]
  congr 1
  split
  · rw [List.flatMap_cons, List.flatMap_nil, List.append_nil]
  · rfl
theorem pre_mem {t : T} {p : List V} (hw : Wf t false) {i : Nat} {u : T} (h : t.nodes[i]? = some u) (hc : u.isCho = true) : ∀ x ∈ expN (p ++ [.int (i : Nat)], u), x ∈ t.ch 0 p := fun x hx => by
  have e : t.ch 0 p = pre t p (i + 1) ++ (topL (t.nodes.drop (i + 1)) (0 + (t.nodes.take (i + 1)).length) p).flatMap expN := by
    unfold pre
    rw [ch_top t 0 p hw, top_nodes t 0 p hw, ← List.flatMap_append, ← topL_app, List.take_append_drop]
  rw [e, pre_snoc h, if_pos hc]
  exact List.mem_append_left _ (List.mem_append_right _ hx)
/-- the messages of a choice, with their places -/
def innA (hd : List V) (cs o : T) (q : List V) : List (List V × T) := cs.inn q ++ [(q ++ [.str "other"], o)]
def subs (l : List (List V × T)) : Chs := l.flatMap fun x => x.2.ch 0 x.1
theorem expN_inn {hd : List V} {cs o r : T} {q : List V} (hw : Wf cs true) : expN (q, .cho hd cs o r) = (q, .cho hd cs o .nil) :: subs (innA hd cs o q) := by
  unfold subs innA
  rw [List.flatMap_append, ← ch_inn cs q hw]
  show _ :: (cs.ch 0 q ++ o.ch 0 (q ++ [V.str "other"])) = _ :: (_ ++ _)
  simp
theorem subs_take (l : List (List V × T)) (k : Nat) : (subs (l.take k)).length ≤ (subs l).length := by
  have e : subs l = subs (l.take k) ++ subs (l.drop k) := by
    unfold subs
    rw [← List.flatMap_append, List.take_append_drop]
  rw [e, List.length_append]
  omega
theorem subs_snoc {l : List (List V × T)} {k : Nat} {x : List V × T} (h : l[k]? = some x) : subs (l.take (k + 1)) = subs (l.take k) ++ x.2.ch 0 x.1 := by
  unfold subs
  rw [List.take_succ, h, List.flatMap_append]
  simp
theorem subs_mem {l : List (List V × T)} {x : List V × T} (h : x ∈ l) : ∀ y ∈ x.2.ch 0 x.1, y ∈ subs l := fun y hy => List.mem_flatMap.mpr ⟨x, h, hy⟩
def CsAt (H : Hp) (q : List V) (x : List V × T) (v : V) : Prop := ∃ c k a, v = .ref c ∧ H c = some (.tup [k, .ref a]) ∧ x.1 = q ++ [k] ∧ At H a x.2 ∧ Wf x.2 false
theorem CsAt.same {H H' : Hp} (s : Same H H') {q : List V} (x : List V × T) (v : V) (h : CsAt H q x v) : CsAt H' q x v := by
  obtain ⟨c, k, a, e, h1, h2, h3, h4⟩ := h
  exact ⟨c, k, a, e, s _ _ h1, h2, h3.same s, h4⟩
theorem inn_at {H : Hp} {q : List V} : ∀ {cs : T} {cvs : List V}, Nodes H cs cvs → Wf cs true → A2 (CsAt H q) (cs.inn q) cvs
  | .nil, _, h, _ => h
  | .cas k m r, _, h, w => by
    obtain ⟨p, ws, ma, mvs, rfl, hp, hm, hms, hr⟩ := h
    exact ⟨.ref p, ws, rfl, ⟨p, k, ma, rfl, hp, rfl, ⟨mvs, hm, hms⟩, w.2.2.1⟩, inn_at hr w.2.2.2⟩
  | .text _ _, _, _, w => by cases w.1
  | .shw _ _, _, _, w => by cases w.1
  | .num _, _, _, w => by cases w.1
  | .cho _ _ _ _, _, _, w => by cases w.1
theorem inn_sz {q : List V} : ∀ {cs : T}, ∀ x ∈ cs.inn q, x.2.sz ≤ cs.sz ∧ x.2.dep ≤ cs.dep
  | .nil, x, h => by cases h
  | .text _ _, x, h => by cases h
  | .shw _ _, x, h => by cases h
  | .num _, x, h => by cases h
  | .cho _ _ _ _, x, h => by cases h
  | .cas k m r, x, h => by
    rcases List.mem_cons.mp h with rfl | h
    · simp only [T.sz, T.dep]
      omega
    · have := inn_sz x h
      simp only [T.sz, T.dep]
      omega
theorem innA_sz {hd : List V} {cs o r : T} {q : List V} : ∀ x ∈ innA hd cs o q, x.2.sz ≤ (T.cho hd cs o r).sz ∧ x.2.dep + 1 ≤ (T.cho hd cs o r).dep := fun x hx => by
  rcases List.mem_append.mp hx with h | h
  · have := inn_sz x h
    simp only [T.sz, T.dep]
    omega
  · rw [List.mem_singleton] at h
    subst h
    simp only [T.sz, T.dep]
    omega
theorem innA_path {H : Hp} {q : List V} {x : List V × T} {v : V} (h : CsAt H q x v) : x.1.length = q.length + 1 := by
  obtain ⟨c, k, a, e, h1, h2, h3, h4⟩ := h
  rw [h2, List.length_append]
  rfl
theorem LkAt.same {K : PySem.W.Frag} {H H' : Hp} {rs : List Rule} (s : Same H H') (x : List V × T) (v : V) (h : LkAt K H rs x v) : LkAt K H' rs x v := by
  obtain ⟨q, wp, ll, b, e, h1, h2, h3, h4⟩ := h
  exact ⟨q, wp, ll, b, e, SqT.tk (TupK.same s) h1, SqT.tk (TupK.same s) h2, s _ _ h3, h4⟩
theorem LkB.out {K : PySem.W.Frag} {D : Addr} {H : Hp} {rs : List Rule} (x : List V × T) (v : V) (h : LkB K D H rs x v) : LkAt K H rs x v := by
  obtain ⟨q, wp, ll, b, e, h1, h2, _, h3, h4⟩ := h
  exact ⟨q, wp, ll, b, e, h1, h2, h3, h4⟩
theorem LkAt.fresh {K : PySem.W.Frag} {H H' : Hp} {D : Addr} {rs : List Rule} (s : Same H H') (hD : H D = none) (x : List V × T) (v : V) (h : LkAt K H rs x v) : LkB K D H' rs x v := by
  obtain ⟨q, wp, ll, b, e, h1, h2, h3, h4⟩ := h
  exact ⟨q, wp, ll, b, e, SqT.tk (TupK.same s) h1, SqT.tk (TupK.same s) h2, ne_of_none h3 hD, s _ _ h3, h4⟩
theorem LkB.same {K : PySem.W.Frag} {H H' : Hp} {D : Addr} {rs : List Rule} (s : Same H H') (x : List V × T) (v : V) (h : LkB K D H rs x v) : LkB K D H' rs x v := LkB.mono (TupK.same s) (fun b xs _ h => s _ _ h) x v h
theorem flat_ks {ks : List V} (h : KOk ks) : ks.all flatV = true := by
  rw [List.all_eq_true]
  intro k hk
  rcases h k hk with ⟨s, rfl⟩ | ⟨i, rfl, _⟩ <;> rfl
theorem any_filt {α : Type} (f : α → Bool) : ∀ l : List α, l.any f = !(l.filter f).isEmpty
  | [] => rfl
  | a :: l => by
    rw [List.any_cons, any_filt f l]
    cases h : f a with
    | true => rw [List.filter_cons_of_pos h]; rfl
    | false => rw [List.filter_cons_of_neg (by rw [h]; exact Bool.false_ne_true), Bool.false_or]
theorem filt_le {α : Type} (l : List α) (f : α → Bool) : (l.filter f).length ≤ l.length := List.length_filter_le f l
end Mw

set_option maxHeartbeats 1000000
namespace Mw
open PySem L2
section
variable {P : Program} {w : World} {K : PySem.W.Frag} {mg : Str → Option Value} {base : Heap} {C : Addr}
/-! ### _law_left -/
abbrev sLl : Stmt := top 46
abbrev nLl : List Str := ["message", "language", "path", "found", "place", "node", "key", "case", "keys", "row", "category", "condition", "numbers", "number"]
theorem scLl : FnScope nLl ["message", "language", "path"] (defScope sLl) := ⟨rfl, rfl, rfl, by decide +kernel, rfl, by decide +kernel, by decide +kernel⟩
def spLl (K : PySem.W.Frag) (C : Addr) (d : Nat) : Sp := fun vs H Q _ => ∃ (a pp : Addr) (lv : V) (t : T) (rs : List Rule) (p : List V), vs = [.ref a, lv, .ref pp] ∧ At H a t ∧ Wf t false ∧ t.dep ≤ d ∧ t.sz < 30000 ∧ (∀ x ∈ t.ch 0 p, PluOk x.2) ∧ LanAt C H rs lv ∧ LanOk rs ∧ Lan43 rs ∧ SqT K H pp p ∧ p.length + 2 * d ≤ 100 ∧
  ∀ l H' vs', Same H H' → H l = none → H' l = some (.lst vs') → A2 (LkAt K H' rs) ((t.ch 0 p).filter fun x => x.2.isPlu) vs' → Q (.ref l) H'
def spLlP (K : PySem.W.Frag) (C : Addr) (d : Nat) : Sp := fun vs H Q E => ∃ e, d = e + 1 ∧ spLl K C e vs H Q E
theorem ok_ll {k d : Nat} {f fC fS : Addr} {fd fdC fdS : FuncData} (hk : 1 ≤ k) (F : Fun K "_law_left" "_law_left" sLl f fd) (L : LC K C)
    (GC : FnOk P w K mg base CX0 1 fC fdC ["language", "number"] (spLc C)) (bC : Binds K fdC ["language", "number"] []) (kC : PySem.W.keepIn K (.ref fC) = true) (mC : mg "_law_category" = some (.ref fC))
    (GS : FnOk P w K mg base CX0 k fS fdS ["message", "language", "path"] (spLlP K C d)) (bS : Binds K fdS ["message", "language", "path"] []) (kS : PySem.W.keepIn K (.ref fS) = true) (mS : mg "_law_left" = some (.ref fS))
    (mr : mg "range" = none) (ml : mg "len" = none) (mli : mg "list" = none) : FnOk P w K mg base CX0 (k + 1) f fd ["message", "language", "path"] (spLl K C d) := by
  refine F.ok scLl (fun vs H Q E h => ?_) (fun cdv A outer s H vs Q E hr h => ?_)
  · obtain ⟨a, pp, lv, t, rs, p, rfl, _⟩ := h
    rfl
  obtain ⟨a, pp, lv, t, rs, p, rfl, hat, hw, hdep, hsz, hpl, hlan, hok, h43, hpp, hplen, q⟩ := h
  have nd := scLl.nd
  refine ⟨_, (pss_cons (ps_set (i := 3) nd rfl (.inl rfl) (pe_lst pa_nil))
      (pss_cons (ps_for PassesOwn.never rfl (pi_range1 rfl mr (pa_cons (pe_callB call_len_seq (by rfl) ml PySem.boot_len (pa_cons (pv 0) pa_nil)) pa_nil)) (pg_name (i := 4) nd rfl (.inl rfl)) (pss_cons (ps_set (i := 5) nd rfl (.inr rfl) (pe_ix ix_list (pv 0) (pv 4) (fun _ _ => rfl)))
      (Evl.pss_cut (ps_if (pt_cmpR op_eq (pe_ix ix_tup (pv 5) pe_int (fun _ _ => rfl)) pe_str (nomark _)) (pss_cons (ps_set (i := 8) nd rfl (.inr rfl) (pe_lc (own := [("key", 6), ("case", 7)]) (g := (gTup K 2 (gCons (gName 6) (gCons (gName 7) gNil))))  (tt := tYes) (te := tVar 6) rfl nd (pi_list (pe_ix ix_tup (pv 5) pe_int (fun _ _ => rfl))) (blkOk_by (N := nLl) (sc := defScope sLl) (by decide +kernel)) (fun _ _ _ _ _ => (pg_tup rfl (pgs_cons (pg_name (i := 6) nd rfl (.inl rfl)) (pgs_cons (pg_name (i := 7) nd rfl (.inl rfl)) pgs_nil)))) (fun _ _ _ _ _ => pts_nil) (fun _ _ _ _ _ => (pv 6))))
      (pss_cons (ps_set (i := 9) nd rfl (.inl rfl) (pe_lst pa_nil))
      (pss_cons (ps_for PassesOwn.never rfl (pi_list (pe_fld (pv 1) rfl)) (pg_tup rfl (pgs_cons (pg_name (i := 10) nd rfl (.inr rfl)) (pgs_cons (pg_name (i := 11) nd rfl (.inl rfl)) pgs_nil))) (pss_cons (ps_setLc (i := 12) (own := [("number", 13)]) (g := (gName 13))  (tt := tTest (tOp rEq (tCall (spLc C) [] E0 (tCons (tVar 1) (tCons (tOp rSub0 (tVar 13) (tOp (rIxT K) (tVar 5) (tC (.int 2)))) tNil))) (tVar 10))) (te := tVar 13) rfl nd rfl rfl (sw_true rfl rfl rfl (by decide +kernel)) (pi_range1 rfl mr (pa_cons pe_int pa_nil)) (blkOk_by (N := nLl) (sc := defScope sLl) (by decide +kernel)) (fun _ _ _ _ _ => (pg_name (i := 13) nd rfl (.inl rfl))) (fun _ _ _ _ _ => (pts_one (pt_cmpR op_eq (pe_call GC (hr.mono (by omega)) rfl mC kC bC .nil pass0 (pa_cons (pv 1) (pa_cons (pe_op op_sub (pv 13) (pe_ix ix_tup (pv 5) pe_int (fun _ _ => rfl))) pa_nil))) (pv 10) (nomark _)))) (fun _ _ _ _ _ => (pv 13)))
      (pss_one (ps_if (PW.pt (pw_and (pt_cmpR op_notIn_seq (pv 10) (pv 8) rfl) (pw_and1 (pt_truth (pe_lc (own := [("number", 13)]) (g := (gName 13))  (tt := tTest (tOp (rIn K true) (tVar 13) (tVar 8))) (te := tVar 13) rfl nd (pi_list (pv 12)) (blkOk_by (N := nLl) (sc := defScope sLl) (by decide +kernel)) (fun _ _ _ _ _ => (pg_name (i := 13) nd rfl (.inl rfl))) (fun _ _ _ _ _ => (pts_one (pt_cmpR op_notIn_seq (pv 13) (pv 8) rfl))) (fun _ _ _ _ _ => (pv 13))) (by intro _; rfl))))) (pss_one (ps_expr (pe_bm PySem.F.plainAttrs_list PySem.F.slot_list_append PySem.F.type_list_append mt_append (pv 9) (pa_cons (pv 10) pa_nil)))) pss_nil))))
      (pss_one (ps_expr (pe_bm PySem.F.plainAttrs_list PySem.F.slot_list_append PySem.F.type_list_append mt_append (pv 3) (pa_cons (pe_tup (pa_cons (pe_op Ts.cat (pv 2) (pe_tup (pa_cons (pv 4) pa_nil))) (pa_cons (pv 9) pa_nil))) pa_nil))))))) pss_nil)
      (pss_one (ps_if (pt_cmpR op_in_seq (pe_ix ix_tup (pv 5) pe_int (fun _ _ => rfl)) (pe_lst (pa_cons pe_str (pa_cons pe_str pa_nil))) rfl) (pss_one (ps_for PassesOwn.never rfl (pi_list (pe_op op_cat (pe_callTy call_list_of (by rfl) mli (by decide +kernel) (pa_cons (pe_ix ix_tup (pv 5) (pe_un un_neg pe_int) (fun _ _ => rfl)) pa_nil)) (pe_lst (pa_cons (pe_tup (pa_cons pe_str (pa_cons (pe_ix ix_tup (pv 5) (pe_un un_neg pe_int) (fun _ _ => rfl)) pa_nil))) pa_nil)))) (pg_tup rfl (pgs_cons (pg_name (i := 6) nd rfl (.inl rfl)) (pgs_cons (pg_name (i := 7) nd rfl (.inl rfl)) pgs_nil))) (pss_one (ps_set (i := 3) nd rfl (.inl rfl) (pe_op op_cat (pv 3) (pe_call GS hr rfl mS kS bS .nil pass0 (pa_cons (pv 7) (pa_cons (pv 1) (pa_cons (pe_op Ts.cat (pv 2) (pe_tup (pa_cons (pv 4) (pa_cons (pv 6) pa_nil)))) pa_nil))))))))) pss_nil)))))
      (pss_one (ps_ret (pv 3))))), ?_⟩
  obtain ⟨mvs, hma, hnods⟩ := hat
  have hns := hnods.ns
  obtain ⟨lo, ldx, lq, rfl, hlo, hrs⟩ := id hlan
  have hnl : mvs.length = t.nodes.length := hns.length
  have hml : mvs.length < 30000 := by
    have h1 := len_sz t
    have h2 := hnods.length
    omega
  refine ⟨Nat.zero_le _, fun F0 hF0 => ?_⟩
  have s0 : Same H (upd H F0 (.lst [])) := same_new hF0 _
  refine ⟨_, rfl, a, _, rfl, .inl (SqL.of (s0 _ _ hma)), mvs.length, rfl, by omega, by omega, for_range (lo := 0) (n := ((mvs.length : Nat) : Int).toNat) (fun i σ H' => ∃ F vs o4 o5 o6 o7 o8 o9 o10 o11 o12, σ = [some (.ref a), some (.ref lo), some (.ref pp), some (.ref F), o4, o5, o6, o7, o8, o9, o10, o11, o12, none] ∧ Same H H' ∧ H F = none ∧ H' F = some (.lst vs) ∧ A2 (LkB K F H' rs) ((pre t p i).filter fun x => x.2.isPlu) vs)
    ⟨F0, [], _, _, _, _, _, _, _, _, _, rfl, s0, hF0, upd_same, rfl⟩ ?_ ?_⟩
  · rintro i σ H1 hi ⟨F, vs, o4, o5, o6, o7, o8, o9, o10, o11, o12, rfl, s1, hF, hF1, aL⟩
    have hi' : i < mvs.length := by omega
    obtain ⟨nv, hnv⟩ : ∃ nv, mvs[i]? = some nv := ⟨_, List.getElem?_eq_getElem hi'⟩
    obtain ⟨u, hu, hun⟩ := hns.get hnv
    have hua := hun.same s1
    obtain ⟨wfu, szu⟩ := wf_nodes hw u (List.mem_of_getElem? hu)
    have hdu := dep_nodes u (List.mem_of_getElem? hu)
    have hsnoc := pre_snoc (p := p) hu
    have hprele := pre_le t p hw i
    have hvs1 := aL.length
    have hfl := filt_le (pre t p i) fun x => x.2.isPlu
    have hvl : vs.length < 30000 := by omega
    refine ⟨_, rfl, _, rfl, a, _, _, nv, rfl, rfl, SqL.of (s1 _ _ hma), at_of (j := i) (by omega) hnv, ?_⟩
    rw [Int.zero_add]
    obtain ⟨np, x, xs, rfl, hnp, hsing, hch, -⟩ := node_of hun wfu
    refine ⟨fun σ' H2 => ∃ vs2 o6 o7 o8 o9 o10 o11 o12, σ' = [some (.ref a), some (.ref lo), some (.ref pp), some (.ref F), some (.int (i : Nat)), some (.ref np), o6, o7, o8, o9, o10, o11, o12, none] ∧ Same H H2 ∧ H2 F = some (.lst vs2) ∧ A2 (LkB K F H2 rs) ((pre t p i ++ [((p ++ [V.int (i : Nat)], u) : List V × T)]).filter fun x => x.2.isPlu) vs2, ?_, ?_⟩
    · refine ⟨_, rfl, np, _, 0, .str x, rfl, rfl, SqT.of (s1 _ _ hnp), atI_nat (j := 0) rfl, rfl, _, rfl, ?_⟩
      have same : u.isPlu = false → A2 (LkB K F H1 rs) ((pre t p i ++ [((p ++ [V.int (i : Nat)], u) : List V × T)]).filter fun x => x.2.isPlu) vs := fun hf => by
        rw [List.filter_append, List.filter_cons_of_neg (by show ¬ u.isPlu = true; rw [hf]; exact Bool.false_ne_true)]
        simpa using aL
      by_cases hcu : u.isCho = true
      · cases u with
        | cho hd cs o r =>
          have hr0 : r = .nil := hsing
          subst hr0
          obtain ⟨p', ws, ca, cvs, oa, ovs, e, hp, hca, hcs, hoo, hos, hr'⟩ := id hun
          cases e
          rcases wfu.2.1 with ⟨n, rfl⟩ | ⟨n, off, rfl⟩
          · rw [hp] at hnp
            cases hnp
            rw [show decide (V.str "select" = V.str "plural") = false by decide]
            exact iteF ⟨vs, _, _, _, _, _, _, _, rfl, s1, hF1, same (by show decide (("select" : Str) = "plural") = false; decide +kernel)⟩
          · rw [hp] at hnp
            cases hnp
            rw [decide_eq_true rfl]
            have hplu : (T.cho [.str "plural", .str n, .int off] cs o .nil).isPlu = true := by
              show decide (("plural" : Str) = "plural") = true
              exact decide_eq_true rfl
            have hmem := pre_mem (p := p) hw hu rfl (p ++ [.int (i : Nat)], .cho [.str "plural", .str n, .int off] cs o .nil) List.mem_cons_self
            obtain ⟨n', off', cs', o', r', eu, hoff, hko, hki, hszu⟩ := hpl _ hmem hplu
            cases eu
            have hp1 := s1 _ _ hp
            have hca1 := s1 _ _ hca
            obtain ⟨k1, k2⟩ := keys_at hcs wfu.2.2.1
            have hkl : cvs.length < 30000 := by
              have e1 := (msgs_len wfu.2.2.1).2
              have e2 := len_sz cs
              simp only [T.sz] at hszu
              omega
            refine iteT ⟨_, rfl, np, _, 3, .ref ca, rfl, rfl, SqT.of hp1, atI_nat (j := 3) rfl, ca, rfl, ⟨_, SqL.of hca1⟩, fun KL hKL => ?_⟩
            refine lc_list (xs := cvs) (fun j H2 => Same H1 H2 ∧ H2 KL = some (.lst (cs.keys.take j))) ⟨same_new hKL _, upd_same⟩ (fun j H2 _ ⟨s', _⟩ => SqL.of (s' _ _ hca1)) ?_ ?_
            · rintro j y H2 hy ⟨s2, hD2⟩
              obtain ⟨c, k, xx, rfl, hk, hc⟩ := k2 j y hy
              have hj := get_lt hy
              refine ⟨c, _, rfl, .inl (.inl (s2 _ _ (s1 _ _ hc))), rfl, k, _, rfl, xx, [], rfl, rfl, rfl, ?_⟩
              refine ⟨_, rfl, _, hD2, sz_line (by rw [List.length_take]; omega), same_mut s2 hKL _, ?_⟩
              rw [upd_same, List.take_succ, hk]
              rfl
            rintro H2 ⟨s2, hK2⟩
            rw [k1, List.take_length] at hK2
            refine ⟨Nat.zero_le _, fun R hR => ?_⟩
            have s3 : Same H2 (upd H2 R (.lst [])) := same_new hR _
            have s13 := s2.trans s3
            obtain ⟨rr, rvs, rfl, hrr, har, hlr⟩ := id hrs
            have hR3 : upd H2 R (.lst []) R = some (.lst []) := upd_same
            have hrl := har.length
            have hlo3 := s13 _ _ (s1 _ _ hlo)
            have hrr3 := s13 _ _ (s1 _ _ hrr)
            refine ⟨_, rfl, lo, C, ldx, _, .ref rr, rfl, hlo3, L.c, L.nr, rfl, rr, rfl, ⟨_, SqL.of hrr3⟩, ?_⟩
            refine for_list (xs := rvs) (fun j σ H' => (∃ o10 o11 o12, σ = [some (.ref a), some (.ref lo), some (.ref pp), some (.ref F), some (.int (i : Nat)), some (.ref np), o6, o7, some (.ref KL), some (.ref R), o10, o11, o12, none]) ∧ Same H2 H' ∧ H' R = some (.lst ((((rs.take j).map (·.1)).filter (lfB rs off' cs.keys)).map V.str)))
              ⟨⟨_, _, _, rfl⟩, s3, hR3⟩ (fun j σ H' _ ⟨_, s', _⟩ => SqL.of (s' _ _ (s2 _ _ (s1 _ _ hrr)))) ?_ ?_
            · rintro j y σ H4 hy ⟨⟨o10, o11, o12, rfl⟩, s4, hR4⟩
              obtain ⟨⟨ct, con⟩, hz, pr, cv, rfl, hpr, hcon⟩ := A2.get har hy
              have hj := get_lt hy
              have s14 := s2.trans s4
              have s04 := s1.trans s14
              have htk : ((rs.take (j + 1)).map (·.1)) = (rs.take j).map (·.1) ++ [ct] := take_map (fun r : Rule => r.1) hz
              refine ⟨pr, _, rfl, .inl (.inl (s04 _ _ hpr)), rfl, .str ct, _, rfl, cv, [], rfl, rfl, ?_⟩
              refine ⟨40, rfl, by decide, by decide, fun D2 hD2 => ?_⟩
              refine lc_range (lo := 0) (n := 40) (fun j H' => Same H4 H' ∧ H' D2 = some (.lst (((List.range j).filter fun n : Nat => decide (catN rs ((n : Int) - off') = ct)).map nV))) ⟨same_new hD2 _, upd_same⟩ ?_ ?_
              · rintro j2 H' hj2 ⟨s', hD'⟩
                refine ⟨rfl, _, rfl, _, rfl, _, rfl, np, _, 2, .int off', rfl, rfl, SqT.of (s' _ _ (s14 _ _ hp1)), atI_nat (j := 2) rfl, _, _, rfl, rfl, ?_⟩
                refine ⟨.ref lo, rs, _, rfl, (LanAt.same (s04.trans s') hlan), hok, fun H'' s'' => ⟨_, rfl, rfl, _, rfl, ?_⟩⟩
                rw [Int.zero_add]
                have hfl2 : ((List.range j2).filter fun n : Nat => decide (catN rs ((n : Int) - off') = ct)).length ≤ j2 := by
                  have := filt_le (List.range j2) fun n : Nat => decide (catN rs ((n : Int) - off') = ct)
                  rw [List.length_range] at this
                  exact this
                refine ite2 (fun c => ?_) (fun c => ?_)
                · have c : catN rs ((j2 : Int) - off') = ct := str_eq (of_decide_eq_true c)
                  refine ⟨_, rfl, _, s'' _ _ hD', sz_line (by rw [List.length_map]; omega), same_mut (s'.trans s'') hD2 _, ?_⟩
                  rw [upd_same, List.range_succ, List.filter_append, List.filter_cons_of_pos (by exact decide_eq_true c), List.map_append]
                  rfl
                · have c : ¬ catN rs ((j2 : Int) - off') = ct := fun z => c (by rw [z]; exact decide_eq_true rfl)
                  refine ⟨s'.trans s'', ?_⟩
                  rw [List.range_succ, List.filter_append, List.filter_cons_of_neg (by rw [decide_eq_true_eq]; exact c), List.filter_nil, List.append_nil]
                  exact s'' _ _ hD'
              rintro H5 ⟨s5, hD5⟩
              refine ⟨_, rfl, _, rfl, KL, _, rfl, .inl (SqL.of (s5 _ _ (s4 _ _ hK2))), rfl, flat_ks hko, _, rfl, ?_⟩
              have hfl3 : (((rs.take j).map (·.1)).filter (lfB rs off' cs.keys)).length ≤ j := by
                have := filt_le ((rs.take j).map (·.1)) (lfB rs off' cs.keys)
                rw [List.length_map, List.length_take] at this
                omega
              have hnext : ∀ H', Same H5 H' → lfB rs off' cs.keys ct = false → H' R = some (.lst ((((rs.take (j + 1)).map (·.1)).filter (lfB rs off' cs.keys)).map V.str)) := fun H' s' hf => by
                rw [htk, List.filter_append, List.filter_cons_of_neg (by rw [hf]; exact Bool.false_ne_true), List.filter_nil, List.append_nil]
                exact s' _ _ (s5 _ _ hR4)
              cases hin : inV (V.str ct) cs.keys with
              | true =>
                refine iteF ⟨⟨_, _, _, rfl⟩, s4.trans s5, hnext _ (fun _ _ h => h) ?_⟩
                unfold lfB
                rw [hin]
                rfl
              | false =>
                refine iteT ⟨_, rfl, D2, rfl, ⟨_, SqL.of hD5⟩, fun D3 hD3 => ?_⟩
                have hfl2 : ((List.range 40).filter fun n : Nat => decide (catN rs ((n : Int) - off') = ct)).length ≤ 40 := by
                  have := filt_le (List.range 40) fun n : Nat => decide (catN rs ((n : Int) - off') = ct)
                  rw [List.length_range] at this
                  exact this
                generalize hnums : ((List.range 40).filter fun n : Nat => decide (catN rs ((n : Int) - off') = ct)) = nums at hD5 hfl2
                refine lc_list (xs := nums.map nV) (fun j H' => Same H5 H' ∧ H' D3 = some (.lst (((nums.take j).filter fun n : Nat => !inV (.int (n : Int)) cs.keys).map nV))) ⟨same_new hD3 _, upd_same⟩ (fun j H' _ ⟨s', _⟩ => SqL.of (s' _ _ hD5)) ?_ ?_
                · rintro j2 y H' hy2 ⟨s', hD'⟩
                  rw [List.getElem?_map] at hy2
                  obtain ⟨m, hm, rfl⟩ := Option.map_eq_some_iff.mp hy2
                  have hfl4 : ((nums.take j2).filter fun n : Nat => !inV (.int (n : Int)) cs.keys).length ≤ 40 := by
                    have := filt_le (nums.take j2) fun n : Nat => !inV (.int (n : Int)) cs.keys
                    rw [List.length_take] at this
                    omega
                  refine ⟨rfl, _, rfl, _, rfl, KL, _, rfl, .inl (SqL.of (s' _ _ (s5 _ _ (s4 _ _ hK2)))), rfl, flat_ks hko, _, rfl, ?_⟩
                  cases hin2 : inV (nV m) cs.keys with
                  | true =>
                    refine iteF ⟨s', ?_⟩
                    rw [List.take_succ, hm, List.filter_append]
                    show H' D3 = some (.lst ((_ ++ List.filter _ [m]).map nV))
                    rw [List.filter_cons_of_neg (by rw [show inV (.int (m : Int)) cs.keys = true from hin2]; exact Bool.false_ne_true), List.filter_nil, List.append_nil]
                    exact hD'
                  | false =>
                    refine iteT ⟨_, rfl, _, hD', sz_line (by rw [List.length_map]; omega), same_mut s' hD3 _, ?_⟩
                    rw [upd_same, List.take_succ, hm, List.filter_append]
                    show _ = some (HO.lst ((_ ++ List.filter _ [m]).map nV))
                    rw [List.filter_cons_of_pos (by rw [show inV (.int (m : Int)) cs.keys = false from hin2]; rfl), List.map_append]
                    rfl
                rintro H6 ⟨s6, hD6⟩
                rw [List.length_map, List.take_length] at hD6
                refine ⟨_, .inl ⟨_, SqL.of hD6, rfl⟩, ?_⟩
                have hlf : lfB rs off' cs.keys ct = !(List.map nV (nums.filter fun n : Nat => !inV (.int (n : Int)) cs.keys)).isEmpty := by
                  unfold lfB
                  rw [hin, hnums, any_filt, List.isEmpty_map]
                  rfl
                rw [← hlf]
                have s46 := (s4.trans s5).trans s6
                have hR6 := s6 _ _ (s5 _ _ hR4)
                cases hb : lfB rs off' cs.keys ct with
                | true =>
                  refine iteT ⟨_, rfl, .inl ⟨rfl, _, SqL.of hR6⟩, _, rfl, R, _, _, rfl, rfl, hR6, sz_line (by rw [List.length_map]; omega), ⟨_, _, _, rfl⟩, same_mut s46 hR _, ?_⟩
                  rw [upd_same, htk, List.filter_append, List.filter_cons_of_pos hb, List.map_append]
                  rfl
                | false => exact iteF ⟨⟨_, _, _, rfl⟩, s46, hnext _ s6 hb⟩
            · rintro σ H4 ⟨⟨o10, o11, o12, rfl⟩, s4, hR4⟩
              rw [hrl, List.take_length] at hR4
              have s14 := s2.trans s4
              have s04 := s1.trans s14
              have hF4 := s14 _ _ hF1
              have RF : R ≠ F := (ne_of_none (s2 _ _ hF1) hR).symm
              refine ⟨_, rfl, .inl ⟨rfl, _, SqL.of hF4⟩, _, rfl, _, rfl, by show 1 ≤ sizeLine; decide, fun t1 ht1 => ?_⟩
              have s5 : Same H4 (upd H4 t1 (.tup [.int (i : Nat)])) := same_new ht1 _
              refine ⟨pp, t1, p, [.int (i : Nat)], rfl, rfl, SqT.tk (TupK.same (s04.trans s5)) hpp, SqT.of upd_same, le_line (by show p.length + 1 < _; omega), fun p' H6 s6 hp' => ⟨_, rfl, by show 2 ≤ sizeLine; decide, fun t2 ht2 => ?_⟩⟩
              have s7 : Same H6 (upd H6 t2 (.tup [.ref p', .ref R])) := same_new ht2 _
              have s47 := (s5.trans s6).trans s7
              have hF7 := s47 _ _ hF4
              have kL : TupK (upd H6 t2 (.tup [.ref p', .ref R])) (upd (upd H6 t2 (.tup [.ref p', .ref R])) F (.lst (vs ++ [.ref t2]))) := TupK.lst hF7 _
              refine ⟨F, vs, _, rfl, rfl, hF7, sz_line (by omega), vs ++ [.ref t2], _, _, _, _, _, _, _, rfl, same_mut (s04.trans s47) hF _, upd_same, ?_⟩
              rw [List.filter_append, List.filter_cons_of_pos (by exact hplu), List.filter_nil]
              refine A2.snoc (aL.mono (LkB.mono ((TupK.same (s14.trans s47)).trans kL) fun b' xs ne h => ?_)) ⟨t2, p', R, lfB rs off' cs.keys, rfl, SqT.tk kL (SqT.of upd_same), SqT.tk ((TupK.same s7).trans kL) hp', RF, ?_, lf_left hok h43 hoff hko⟩
              · rw [upd_ne ne]
                exact s47 _ _ (s14 _ _ h)
              · rw [upd_ne RF]
                exact s47 _ _ hR4
        | _ => cases hcu
      · have hx : ¬ x = "plural" := fun z => hcu (hch.mp (.inr z))
        rw [show decide (V.str x = V.str "plural") = false from decide_eq_false fun z => hx (str_eq z)]
        refine iteF ⟨vs, _, _, _, _, _, _, _, rfl, s1, hF1, same ?_⟩
        cases u with
        | cho _ _ _ _ => exact absurd rfl hcu
        | _ => rfl
    · rintro σ' H2 ⟨vs2, o6, o7, o8, o9, o10, o11, o12, rfl, s2, hF2, aL2⟩
      have hvs2 := aL2.length
      have hfl2 := filt_le (pre t p i ++ [((p ++ [V.int (i : Nat)], u) : List V × T)]) fun x => x.2.isPlu
      rw [List.length_append, List.length_singleton] at hfl2
      refine ⟨_, rfl, np, _, 0, .str x, rfl, rfl, SqT.of (s2 _ _ hnp), atI_nat (j := 0) rfl, by show 2 ≤ sizeLine; decide, fun l1 hl1 => ⟨l1, _, rfl, .inl (SqL.of upd_same), rfl, rfl, _, rfl, ?_⟩⟩
      have s3 : Same H2 (upd H2 l1 (.lst [.str "select", .str "plural"])) := same_new hl1 _
      have e : inV (V.str x) [.str "select", .str "plural"] = u.isCho := by
        rw [in_two]
        cases hu : u.isCho with
        | true => exact decide_eq_true (hch.mpr hu)
        | false => exact decide_eq_false fun z => by rw [hch.mp z] at hu; cases hu
      show if inV (V.str x) [.str "select", .str "plural"] = true then _ else _
      rw [e]
      have s03 := s2.trans s3
      have hF3 := s3 _ _ hF2
      have aL3 := aL2.mono (LkB.same s3)
      generalize upd H2 l1 (.lst [.str "select", .str "plural"]) = H3 at s03 hF3 aL3
      cases hcu : u.isCho with
      | false =>
        refine iteF ⟨F, vs2, _, _, _, _, _, _, _, _, _, rfl, s03, hF, hF3, ?_⟩
        rw [hsnoc, hcu, if_neg Bool.false_ne_true, List.append_nil]
        have hp0 : u.isPlu = false := by
          cases u with
          | cho _ _ _ _ => cases hcu
          | _ => rfl
        rw [List.filter_append, List.filter_cons_of_neg (by show ¬ u.isPlu = true; rw [hp0]; exact Bool.false_ne_true)] at aL3
        simpa using aL3
      | true =>
        cases u with
        | cho hd cs o r =>
          have hr0 : r = .nil := hsing
          subst hr0
          obtain ⟨p', ws, ca, cvs, oa, ovs, e', hp, hca, hcs, hoo, hos, hr'⟩ := id hun
          cases e'
          obtain ⟨d', hd'⟩ : ∃ d', d = d' + 1 := by
            have : 1 ≤ (T.cho hd cs o .nil).dep := by
              simp only [T.dep]
              omega
            exact ⟨d - 1, by omega⟩
          have hcl : cvs.length < 30000 := by
            have e1 := hcs.length
            have e2 := len_sz cs
            simp only [T.sz] at szu
            omega
          refine iteT ⟨_, rfl, 2, rfl, np, _, -2, .ref ca, rfl, rfl, SqT.of (s03 _ _ hp), atI_m2 hd _ _, ca, cvs, rfl, .inl (SqL.of (s03 _ _ hca)), fun l2 hl2 => ?_⟩
          have s4 : Same H3 (upd H3 l2 (.lst cvs)) := same_new hl2 _
          have hl2' : upd H3 l2 (.lst cvs) l2 = some (.lst cvs) := upd_same
          generalize upd H3 l2 (.lst cvs) = H4 at s4 hl2'
          refine ⟨_, rfl, 1, rfl, np, _, -1, .ref oa, rfl, rfl, SqT.of ((s03.trans s4) _ _ hp), atI_m1 hd _ _, by show 2 ≤ sizeLine; decide, fun t1 ht1 => ⟨by show 1 ≤ sizeLine; decide, fun l3 hl3 => ?_⟩⟩
          have s5 : Same H4 (upd (upd H4 t1 (.tup [.str "other", .ref oa])) l3 (.lst [.ref t1])) := (same_new ht1 _).trans (same_new hl3 _)
          have ht1' : upd (upd H4 t1 (.tup [.str "other", .ref oa])) l3 (.lst [.ref t1]) t1 = some (.tup [.str "other", .ref oa]) := same_new hl3 _ _ _ upd_same
          have hl3' : upd (upd H4 t1 (.tup [.str "other", .ref oa])) l3 (.lst [.ref t1]) l3 = some (.lst [.ref t1]) := upd_same
          generalize upd (upd H4 t1 (.tup [.str "other", .ref oa])) l3 (.lst [.ref t1]) = H5 at s5 ht1' hl3'
          refine ⟨l2, l3, cvs, [.ref t1], rfl, rfl, s5 _ _ hl2', hl3', le_line (by show cvs.length + 1 < _; omega), fun l4 hl4 => ⟨l4, rfl, ⟨_, SqL.of upd_same⟩, ?_⟩⟩
          have s6 : Same H5 (upd H5 l4 (.lst (cvs ++ [.ref t1]))) := same_new hl4 _
          have hl4' : upd H5 l4 (.lst (cvs ++ [.ref t1])) l4 = some (.lst (cvs ++ [.ref t1])) := upd_same
          have s36 := (s4.trans s5).trans s6
          have s06 := s03.trans s36
          have aI : A2 (CsAt (upd H5 l4 (.lst (cvs ++ [.ref t1]))) (p ++ [.int (i : Nat)])) (innA hd cs o (p ++ [.int (i : Nat)])) (cvs ++ [.ref t1]) :=
            A2.snoc ((inn_at hcs wfu.2.2.1).mono (CsAt.same s06)) ⟨t1, .str "other", oa, rfl, s6 _ _ ht1', rfl, ⟨ovs, s06 _ _ hoo, Nodes.same s06 hos⟩, wfu.2.2.2.1⟩
          have hF6 := s36 _ _ hF3
          have aL6 := aL3.mono (LkB.same s36)
          generalize upd H5 l4 (.lst (cvs ++ [.ref t1])) = H6 at s6 hl4' s36 s06 aI hF6 aL6
          have hexp : expN (p ++ [.int (i : Nat)], .cho hd cs o .nil) = (p ++ [.int (i : Nat)], .cho hd cs o .nil) :: subs (innA hd cs o (p ++ [.int (i : Nat)])) := expN_inn wfu.2.2.1
          have hsubs : (subs (innA hd cs o (p ++ [.int (i : Nat)]))).length ≤ (T.cho hd cs o .nil).sz := by
            have h1 := ch_len (.cho hd cs o .nil) i p
            have h2 : (T.cho hd cs o .nil).ch i p = expN (p ++ [.int (i : Nat)], .cho hd cs o .nil) := by
              show _ :: (_ ++ _) ++ [] = _ :: (_ ++ _)
              rw [List.append_nil]
            rw [h2, hexp, List.length_cons] at h1
            omega
          refine for_list (xs := cvs ++ [.ref t1]) (fun j σ H' => ∃ F vs o6 o7, σ = [some (.ref a), some (.ref lo), some (.ref pp), some (.ref F), some (.int (i : Nat)), some (.ref np), o6, o7, o8, o9, o10, o11, o12, none] ∧ Same H6 H' ∧ H F = none ∧ H' F = some (.lst vs) ∧ A2 (LkB K F H' rs) ((pre t p i ++ [((p ++ [V.int (i : Nat)], T.cho hd cs o .nil) : List V × T)] ++ subs ((innA hd cs o (p ++ [.int (i : Nat)])).take j)).filter fun x => x.2.isPlu) vs)
            ⟨F, vs2, _, _, rfl, fun _ _ h => h, hF, hF6, by rw [List.take_zero]; show A2 _ (List.filter _ (_ ++ [])) _; rw [List.append_nil]; exact aL6⟩ (fun j σ H' _ ⟨_, _, _, _, _, s', _⟩ => SqL.of (s' _ _ hl4')) ?_ ?_
          · rintro j y σ H7 hy ⟨F', vs3, o6', o7', rfl, s7, hF', hF7, aL7⟩
            obtain ⟨z, hz, hcz⟩ := A2.get aI hy
            obtain ⟨c, k, am, rfl, hc, hzk, hzat, hzw⟩ := id hcz
            have hzm := List.mem_of_getElem? hz
            obtain ⟨zsz, zdep⟩ := innA_sz (r := .nil) z hzm
            have hzl := innA_path hcz
            have s07 := s06.trans s7
            have hvs3 := aL7.length
            have hfl3 := filt_le (pre t p i ++ [((p ++ [V.int (i : Nat)], T.cho hd cs o .nil) : List V × T)] ++ subs ((innA hd cs o (p ++ [.int (i : Nat)])).take j)) fun x => x.2.isPlu
            have htake := subs_take (innA hd cs o (p ++ [.int (i : Nat)])) j
            rw [List.length_append, List.length_append, List.length_singleton] at hfl3
            refine ⟨c, _, rfl, .inl (.inl (s7 _ _ hc)), rfl, k, _, rfl, .ref am, [], rfl, rfl, ?_⟩
            refine ⟨_, rfl, _, rfl, _, rfl, _, rfl, _, rfl, _, rfl, by show 2 ≤ sizeLine; decide, fun t3 ht3 => ?_⟩
            have s8 : Same H7 (upd H7 t3 (.tup [.int (i : Nat), k])) := same_new ht3 _
            refine ⟨pp, t3, p, [.int (i : Nat), k], rfl, rfl, SqT.tk (TupK.same (s07.trans s8)) hpp, SqT.of upd_same, le_line (by show p.length + 2 < _; omega), fun p3 H8 s9 hp3 => ?_⟩
            have s78 := s8.trans s9
            have hp3' : SqT K H8 p3 z.1 := by
              rw [hzk, List.append_assoc]
              exact hp3
            refine ⟨d', hd', am, p3, .ref lo, z.2, rs, z.1, rfl, hzat.same (s7.trans s78), hzw, by omega, by omega, fun y hy => hpl y ?_, LanAt.same (s07.trans s78) hlan, hok, h43, hp3', ?_, fun lr H9 vs9 sA hlr h9 aR => ?_⟩
            · refine pre_mem (p := p) hw hu rfl y ?_
              rw [hexp]
              exact List.mem_cons_of_mem _ (subs_mem hzm y hy)
            · rw [hzl, List.length_append, List.length_singleton]
              omega
            have hrl9 := aR.length
            have hfl9 := filt_le (z.2.ch 0 z.1) fun x => x.2.isPlu
            have hch9 := ch_len z.2 0 z.1
            have s79 := s78.trans sA
            refine ⟨F', lr, vs3, vs9, rfl, rfl, s79 _ _ hF7, h9, le_line (by omega), fun F2 hF2 => ?_⟩
            have sB : Same H9 (upd H9 F2 (.lst (vs3 ++ vs9))) := same_new hF2 _
            refine ⟨F2, vs3 ++ vs9, _, _, rfl, (s7.trans s79).trans sB, (s07.trans s79).free hF2, upd_same, ?_⟩
            rw [subs_snoc hz, ← List.append_assoc, List.filter_append]
            exact A2.app (aR.mono (LkAt.fresh sB hF2)) (aL7.mono fun x v h => LkAt.fresh sB hF2 x v (LkAt.same s79 x v (LkB.out x v h)))
          · rintro σ H7 ⟨F', vs3, o6', o7', rfl, s7, hF', hF7, aL7⟩
            have hal := aI.length
            refine ⟨F', vs3, _, _, _, _, _, _, _, _, _, rfl, s06.trans s7, hF', hF7, ?_⟩
            rw [hsnoc, hcu, if_pos rfl, hexp]
            rw [hal, List.take_length, List.append_assoc] at aL7
            exact aL7
        | _ => cases hcu
  · rintro σ H1 ⟨F, vs, o4, o5, o6, o7, o8, o9, o10, o11, o12, rfl, s1, hF, hF1, aL⟩
    rw [pre_all t p hw (by omega)] at aL
    refine ⟨_, rfl, q F H1 vs s1 hF hF1 (aL.mono fun x v ⟨q', wp, ll, b, e, h1, h2, _, h4, h5⟩ => ⟨q', wp, ll, b, e, h1, h2, h4, h5⟩)⟩
end
end Mw

set_option maxHeartbeats 1000000
namespace Mw
open PySem L2 Gg
/-! ### the law's plurals -/
theorem iks_sub {ks ls : List V} (h : ks.Sublist ls) : (iks ks).length ≤ (iks ls).length := (h.filterMap _).length_le
theorem hd_plu {hd : List V} {i j : Bool} {cs o : T} (h : HdOk hd i j cs.keys) (hp : (T.cho hd cs o .nil).isPlu = true) (hs : (T.cho hd cs o .nil).sz < 30000) : PluOk (.cho hd cs o .nil) := by
  cases h with
  | sel _ => exact absurd hp (by show ¬ decide (("select" : Str) = "plural") = true; decide +kernel)
  | plu hn ho hk =>
    rename_i n off
    refine fun _ => ?_
    have hko : KOk pkeys := fun k hk => by
      simp only [pkeys, List.mem_cons, List.not_mem_nil, or_false] at hk
      rcases hk with rfl | rfl | rfl | rfl | rfl | rfl
      · exact .inr ⟨0, rfl, by decide, by decide⟩
      · exact .inr ⟨1, rfl, by decide, by decide⟩
      · exact .inr ⟨3, rfl, by decide, by decide⟩
      · exact .inl ⟨_, rfl⟩
      · exact .inl ⟨_, rfl⟩
      · exact .inl ⟨_, rfl⟩
    have h1 : (iks cs.keys).length ≤ 20 := Nat.le_trans (iks_sub hk) (by decide +kernel)
    rcases ho with rfl | rfl | rfl
    · exact ⟨n, 0, cs, o, .nil, rfl, by decide, fun k hk' => hko k (hk.subset hk'), h1, hs⟩
    · exact ⟨n, 1, cs, o, .nil, rfl, by decide, fun k hk' => hko k (hk.subset hk'), h1, hs⟩
    · exact ⟨n, 2, cs, o, .nil, rfl, by decide, fun k hk' => hko k (hk.subset hk'), h1, hs⟩
theorem gd_plu : ∀ {t : T} {c : Bool} {d : Nat} {i : Bool} (j : Nat) (p : List V), Gd t c d i → t.sz < 30000 → ∀ x ∈ t.ch j p, PluOk x.2
  | .nil, _, _, _, _, _, _, _, x, hx => by cases hx
  | .text _ r, _, _, _, j, p, h, hs, x, hx => gd_plu (t := r) (j + 1) p h.2.2 (by simp only [T.sz] at hs; omega) x hx
  | .shw _ r, _, _, _, j, p, h, hs, x, hx => gd_plu (t := r) (j + 1) p h.2.2 (by simp only [T.sz] at hs; omega) x hx
  | .num r, _, _, _, j, p, h, hs, x, hx => gd_plu (t := r) (j + 1) p h.2.2 (by simp only [T.sz] at hs; omega) x hx
  | .cho hd cs o r, _, _, _, j, p, h, hs, x, hx => by
    obtain ⟨h1, ⟨e', j', he, hh, g1, g2⟩, h3⟩ := h
    simp only [T.sz] at hs
    rcases List.mem_append.mp hx with hx | hx
    · rcases List.mem_cons.mp hx with rfl | hx
      · intro hp
        exact hd_plu hh hp (by simp only [T.sz]; omega) hp
      · rcases List.mem_append.mp hx with hx | hx
        · exact gd_plu (t := cs) _ _ g1 (by omega) x hx
        · exact gd_plu (t := o) _ _ g2 (by omega) x hx
    · exact gd_plu (t := r) (j + 1) p h3 (by omega) x hx
  | .cas k m r, _, _, _, j, p, h, hs, x, hx => by
    simp only [T.sz] at hs
    rcases List.mem_append.mp hx with hx | hx
    · exact gd_plu (t := m) 0 _ h.2.1 (by omega) x hx
    · exact gd_plu (t := r) j p h.2.2 (by omega) x hx
/-! ### places -/
def PPk (v : V) : Prop := (∃ j : Nat, v = .int j ∧ j < 2000) ∨ v ∈ KU
theorem ch_places : ∀ {t : T} {c : Bool} (j : Nat) (p : List V), Wf t c → Kd t → (c = true → ∀ k ∈ t.keys, k ∈ KU) → j + t.sz < 2000 → (∀ v ∈ p, PPk v) → ∀ x ∈ t.ch j p, (∀ v ∈ x.1, PPk v) ∧ x.1.length ≤ p.length + 2 * t.dep + (if c = true then 1 else 0)
  | .nil, _, _, _, _, _, _, _, _, x, hx => by cases hx
  | .text _ r, c, j, p, hw, h, hk, hs, hp, x, hx => ch_places (t := r) (c := c) (j + 1) p hw.2 h (fun e => by rw [hw.1] at e; cases e) (by simp only [T.sz] at hs; omega) hp x hx
  | .shw _ r, c, j, p, hw, h, hk, hs, hp, x, hx => ch_places (t := r) (c := c) (j + 1) p hw.2 h (fun e => by rw [hw.1] at e; cases e) (by simp only [T.sz] at hs; omega) hp x hx
  | .num r, c, j, p, hw, h, hk, hs, hp, x, hx => ch_places (t := r) (c := c) (j + 1) p hw.2 h (fun e => by rw [hw.1] at e; cases e) (by simp only [T.sz] at hs; omega) hp x hx
  | .cho hd cs o r, c, j, p, hw, h, hk, hs, hp, x, hx => by
    obtain ⟨w1, w2, w3, w4, w5⟩ := hw
    obtain ⟨k1, k2, k3, k4, k5⟩ := h
    simp only [T.sz] at hs
    have hp' : ∀ v ∈ p ++ [V.int (j : Nat)], PPk v := fun v hv => by
      rcases List.mem_append.mp hv with hv | hv
      · exact hp v hv
      · exact .inl ⟨j, List.mem_singleton.mp hv, by omega⟩
    rcases List.mem_append.mp hx with hx | hx
    · rcases List.mem_cons.mp hx with rfl | hx
      · refine ⟨hp', ?_⟩
        simp only [T.dep, List.length_append, List.length_singleton]
        omega
      · rcases List.mem_append.mp hx with hx | hx
        · obtain ⟨a, b⟩ := ch_places (t := cs) (c := true) 0 _ w3 k3 (fun _ k hk' => (k1 k hk').1) (by omega) hp' x hx
          refine ⟨a, ?_⟩
          simp only [T.dep, List.length_append, List.length_singleton, if_pos] at b ⊢
          omega
        · have hp2 : ∀ v ∈ p ++ [V.int (j : Nat)] ++ [V.str "other"], PPk v := fun v hv => by
            rcases List.mem_append.mp hv with hv | hv
            · exact hp' v hv
            · rw [List.mem_singleton.mp hv]
              exact .inr (by simp [KU])
          obtain ⟨a, b⟩ := ch_places (t := o) (c := false) 0 _ w4 k4 (fun e => by cases e) (by omega) hp2 x hx
          refine ⟨a, ?_⟩
          simp only [T.dep, List.length_append, List.length_singleton, Bool.false_eq_true, if_false] at b ⊢
          omega
    · obtain ⟨a, b⟩ := ch_places (t := r) (c := c) (j + 1) p w5 k5 (fun e => by rw [w1] at e; cases e) (by omega) hp x hx
      refine ⟨a, ?_⟩
      simp only [T.dep]
      omega
  | .cas k m r, c, j, p, hw, h, hk, hs, hp, x, hx => by
    obtain ⟨w1, w2, w3, w4⟩ := hw
    subst w1
    simp only [T.sz] at hs
    have hkk := hk rfl k (by simp [T.keys])
    rcases List.mem_append.mp hx with hx | hx
    · have hp2 : ∀ v ∈ p ++ [k], PPk v := fun v hv => by
        rcases List.mem_append.mp hv with hv | hv
        · exact hp v hv
        · rw [List.mem_singleton.mp hv]
          exact .inr hkk
      obtain ⟨a, b⟩ := ch_places (t := m) (c := false) 0 _ w3 h.1 (fun e => by cases e) (by omega) hp2 x hx
      have b' : x.1.length ≤ p.length + 1 + 2 * m.dep := by simpa using b
      refine ⟨a, ?_⟩
      rw [if_pos rfl]
      simp only [T.dep]
      omega
    · obtain ⟨a, b⟩ := ch_places (t := r) (c := true) j p w4 h.2 (fun _ k' hk' => hk rfl k' (List.mem_cons_of_mem _ hk')) (by omega) hp x hx
      refine ⟨a, ?_⟩
      rw [if_pos rfl] at b ⊢
      simp only [T.dep]
      omega
theorem pk_ok {v : V} (h : PPk v) : (vD v).showable = true ∧ (vD v).hasDict = false ∧ (vD v).depth = 0 ∧ (vD v).shown.length ≤ 12 := by
  rcases h with ⟨j, rfl, hj⟩ | h
  · have hi : ∀ n : Fin 2000, (PyData.int ((n : Nat) : Int)).showable = true ∧ (PyData.int ((n : Nat) : Int)).shown.length ≤ 12 := by decide +kernel
    have := hi ⟨j, hj⟩
    exact ⟨this.1, rfl, rfl, this.2⟩
  · obtain ⟨_, h2, h3, h4, h5⟩ := vd_ok (ku_vok h)
    exact ⟨h2, h3, h4, h5⟩
theorem pk_dp {K : PySem.W.Frag} {H : Hp} {v : V} (h : PPk v) : Dp K H v (vD v) := by
  rcases h with ⟨j, rfl, hj⟩ | h
  · exact .int _
  · exact dp_flat (ku_vok h)
theorem pks_dp {K : PySem.W.Frag} {H : Hp} : ∀ {p : List V}, (∀ v ∈ p, PPk v) → DpAll K H p (p.map vD)
  | [], _ => .nil
  | _ :: _, h => .cons (pk_dp (h _ List.mem_cons_self)) (pks_dp fun v hv => h v (List.mem_cons_of_mem _ hv))
theorem pks_ok : ∀ {p : List V}, (∀ v ∈ p, PPk v) → PyData.showableAll (p.map vD) = true ∧ PyData.hasDictAll (p.map vD) = false ∧ PyData.depthAll (p.map vD) = 0 ∧ slen (PyData.shownAll (p.map vD)) ≤ 14 * p.length
  | [], _ => ⟨rfl, rfl, rfl, Nat.le_refl _⟩
  | v :: p, h => by
    obtain ⟨a1, a2, a3, a4⟩ := pk_ok (h v List.mem_cons_self)
    obtain ⟨b1, b2, b3, b4⟩ := pks_ok (p := p) fun v hv => h v (List.mem_cons_of_mem _ hv)
    refine ⟨?_, ?_, ?_, ?_⟩
    · simp only [List.map_cons, PyData.showableAll, a1, b1, Bool.and_self]
    · simp only [List.map_cons, PyData.hasDictAll, a2, b2, Bool.or_self]
    · simp only [List.map_cons, PyData.depthAll, a3, b3, Nat.max_self]
    · simp only [List.map_cons, PyData.shownAll, slen_cons, List.length_cons]
      omega
/-! ### what is shown -/
def nms (rs : List Rule) (x : List V × T) : List Str := (rs.map (·.1)).filter (lfB rs x.2.offN x.2.cks)
def dLk (rs : List Rule) (x : List V × T) : PyData := .tuple [.tuple (x.1.map vD), .list ((nms rs x).map .str)]
theorem strs_dp {K : PySem.W.Frag} {H : Hp} : ∀ l : List Str, DpAll K H (l.map V.str) (l.map .str)
  | [] => .nil
  | _ :: l => .cons (.str _) (strs_dp l)
theorem nms_str {rs : List Rule} (h : Lan43 rs) (x : List V × T) : (∀ s ∈ nms rs x, s = "one" ∨ s = "few") ∧ (nms rs x).length ≤ 2 := by
  have hsub : (nms rs x).Sublist (["one", "few"] : List Str) := (List.filter_sublist).trans h.1
  refine ⟨fun s hs => ?_, hsub.length_le⟩
  have := hsub.subset hs
  simpa using this
theorem nms_ok : ∀ {l : List Str}, (∀ s ∈ l, s = ("one" : Str) ∨ s = ("few" : Str)) → PyData.showableAll (l.map .str) = true ∧ PyData.hasDictAll (l.map .str) = false ∧ PyData.depthAll (l.map .str) = 0 ∧ slen (PyData.shownAll (l.map .str)) ≤ 14 * l.length
  | [], _ => ⟨rfl, rfl, rfl, Nat.le_refl _⟩
  | s :: l, h => by
    have a : (PyData.str s).showable = true ∧ (PyData.str s).hasDict = false ∧ (PyData.str s).depth = 0 ∧ (PyData.str s).shown.length ≤ 12 := by
      rcases h s List.mem_cons_self with rfl | rfl
      · exact ⟨rfl, rfl, rfl, by decide +kernel⟩
      · exact ⟨rfl, rfl, rfl, by decide +kernel⟩
    obtain ⟨a1, a2, a3, a4⟩ := a
    obtain ⟨b1, b2, b3, b4⟩ := nms_ok (l := l) fun v hv => h v (List.mem_cons_of_mem _ hv)
    refine ⟨?_, ?_, ?_, ?_⟩
    · simp only [List.map_cons, PyData.showableAll, a1, b1, Bool.and_self]
    · simp only [List.map_cons, PyData.hasDictAll, a2, b2, Bool.or_self]
    · simp only [List.map_cons, PyData.depthAll, a3, b3, Nat.max_self]
    · simp only [List.map_cons, PyData.shownAll, slen_cons, List.length_cons]
      omega
def XOk (x : List V × T) : Prop := (∀ v ∈ x.1, PPk v) ∧ x.1.length ≤ 20 ∧ PluOk x.2 ∧ x.2.isPlu = true
theorem lk_dp {K : PySem.W.Frag} {H : Hp} {rs : List Rule} (hok : LanOk rs) (hl : Lan43 rs) : ∀ {l : Chs} {vs : List V}, (∀ x ∈ l, XOk x) → A2 (LkAt K H rs) l vs → DpAll K H vs (l.map (dLk rs))
  | [], _, _, h => by rw [show _ = [] from h]; exact .nil
  | x :: l, _, hx, ⟨v, ws, e, h1, h2⟩ => by
    subst e
    obtain ⟨q, wp, ll, b, rfl, p1, p2, p3, p4⟩ := h1
    obtain ⟨x1, x2, x3, x4⟩ := hx x List.mem_cons_self
    obtain ⟨n, off, cs, o, r, eu, hoff, hko, hki, hsz⟩ := x3 x4
    have hleft : LeftIs rs x.2.offN x.2.cks (lfB rs x.2.offN x.2.cks) := by
      rw [eu]
      exact lf_left hok hl hoff hko
    rw [left_one p4 hleft] at p3
    exact .cons (.tup p1 (.cons (.tup p2 (pks_dp x1)) (.cons (.lst (SqL.of p3) (strs_dp _)) .nil))) (lk_dp hok hl (fun y hy => hx y (List.mem_cons_of_mem _ hy)) h2)
theorem lk_ok {rs : List Rule} (hl : Lan43 rs) : ∀ {l : Chs}, (∀ x ∈ l, XOk x) → PyData.showableAll (l.map (dLk rs)) = true ∧ PyData.hasDictAll (l.map (dLk rs)) = false ∧ PyData.depthAll (l.map (dLk rs)) ≤ 2 ∧ slen (PyData.shownAll (l.map (dLk rs))) ≤ 400 * l.length
  | [], _ => ⟨rfl, rfl, (show (0 : Nat) ≤ 2 from by decide), Nat.le_refl _⟩
  | x :: l, h => by
    obtain ⟨x1, x2, _, _⟩ := h x List.mem_cons_self
    obtain ⟨a1, a2, a3, a4⟩ := pks_ok x1
    obtain ⟨n1, n2⟩ := nms_str hl x
    obtain ⟨c1, c2, c3, c4⟩ := nms_ok n1
    obtain ⟨b1, b2, b3, b4⟩ := lk_ok hl (l := l) fun v hv => h v (List.mem_cons_of_mem _ hv)
    refine ⟨?_, ?_, ?_, ?_⟩
    · show (PyData.showableAll [.tuple (x.1.map vD), .list ((nms rs x).map .str)] && _) = true
      rw [b1]
      show ((PyData.showableAll (x.1.map vD) && (PyData.showableAll ((nms rs x).map .str) && true)) && true) = true
      rw [a1, c1]
      rfl
    · show ((PyData.hasDictAll (x.1.map vD) || (PyData.hasDictAll ((nms rs x).map .str) || false)) || _) = false
      rw [a2, c2, b2]
      rfl
    · show max (max (PyData.depthAll (x.1.map vD) + 1) (max (PyData.depthAll ((nms rs x).map .str) + 1) 0) + 1) _ ≤ 2
      rw [a3, c3]
      omega
    · have t1 := tup_len (PyData.shownAll (x.1.map vD))
      have t2 := list_len (PyData.shownAll ((nms rs x).map .str))
      have t3 := tup_len [tupleText (PyData.shownAll (x.1.map vD)), listText (PyData.shownAll ((nms rs x).map .str))]
      simp only [List.map_cons, dLk, PyData.shownAll, PyData.shown, slen_cons, slen_nil, List.length_cons] at t3 ⊢
      have e : slen (PyData.shownAll (l.map fun a => PyData.tuple [.tuple (a.1.map vD), .list ((nms rs a).map .str)])) ≤ 400 * l.length := b4
      omega
theorem lk_sh {rs : List Rule} (hl : Lan43 rs) {l : Chs} (h : ∀ x ∈ l, XOk x) (hn : l.length ≤ 2000) : Gg.Sh (.list (l.map (dLk rs))) := by
  obtain ⟨a1, a2, a3, a4⟩ := lk_ok hl h
  have t := list_len (PyData.shownAll (l.map (dLk rs)))
  exact ⟨a1, a2, show PyData.depthAll (l.map (dLk rs)) + 1 ≤ 60 by omega, show (listText (PyData.shownAll (l.map (dLk rs)))).length ≤ _ by omega⟩
end Mw

set_option linter.all false
/-! the law's own def, run where the caller runs it: nothing is being shown there -/
namespace Gy
open PySem PySem.Spec PyProof.Rows L2
/-- a def's promise around A alone -/
def RunAt (A : Around) (P : Program) (w : World) (K : PySem.W.Frag) (mg : Str → Option Value) (base : Heap) (CX : CXT) (k : Nat) (f : Addr) (fd : FuncData) (ps : List Str) (sp : Sp) : Prop :=
  ∀ (outer : List Env) (s : Shared) (H : Hp) (args : Args) (us : List Value) (vs : List V) (Q : VK) (E : XK), Room k A → Env0 P w K mg base A outer s H → BindsTo s fd args (ps.zip us) → Vals vs us → sp vs H Q E →
    codeAny (model P w) A (.call (.ref f) args) (CR CX outer P w H s Q E) s
section
variable {P : Program} {w : World} {K : PySem.W.Frag} {mg : Str → Option Value} {base : Heap}
/-- from one abstract heap H that knows the script and nothing else -/
theorem heap_at {mb : Str → Option Value} {k : Nat} {fa a : Addr} {fd : FuncData} {x : Str} {sp : Sp} {s₁ : Shared} {vs : List Value} {ns : List Int} (KX : K.In s₁.heap) (hns : s₁.heap.Ns mainGlobals mg) (hb : s₁.heap.Ns builtinsNs mb)
    (hbb : ∀ x : Str, x ≠ "__name__" → mb x = bootBuiltins x) (hlim : s₁.heap.NoLimit) (hg : s₁.gens = #[]) (ha : s₁.heap.get? a = some { cls := .type "list", data := .seq vs.toArray }) (hr : Room k callerA)
    (F : ∀ base : Heap, K.In base → base.Ns mainGlobals mg → RunAt callerA P w K mg base CX0 k fa fd [x] sp) (hbind : ∀ (s : Shared) (u : Value), BindsTo s fd ⟨[u], []⟩ [(x, u)])
    (H : Hp) (hO : Only H) (hsp : sp [.ref a] H (fun v _ => v = .bl true) fun _ _ _ => False) (hok : HOk P w H s₁.heap) (hA : ∀ b u, H b = some u → b = a ∧ K.lookup a = none) :
    codeAny (model P w) callerA (.call (.ref fa) ⟨[.ref a], []⟩) (fun r s' => r = .ok (.ret (.bool true)) ∧ OldK s₁.heap s'.heap ∧ s'.os = s₁.os ∧ AllBare s'.gens) s₁ := by
  have dict : ∀ {b : Addr} {o : Obj} {es : Array DictEntry} {ep : Nat}, s₁.heap.get? b = some o → o.data = .dict es ep → H b = none := fun {b o es ep} e hd => by
    cases q : H b with
    | none => rfl
    | some u =>
      rw [(hA b u q).1, ha] at e
      cases e
      cases (show Data.seq vs.toArray _ = Data.dict es ep from hd)
  have ns0 : ∀ {b : Addr} {m : Str → Option Value}, s₁.heap.Ns b m → (hidT s₁.heap H).Ns b m := fun {b m} ⟨o, es, ep, e, hd, r⟩ => ⟨o, es, ep, hidT_get e (dict e hd), hd, r⟩
  have kb : K.In (hidT s₁.heap H) := fun b o e => hidT_get (KX b o e) (by
    cases q : H b with
    | none => rfl
    | some u =>
      obtain ⟨h1, h2⟩ := hA b u q
      rw [h1, h2] at e
      cases e)
  obtain ⟨mc, l1, l2⟩ := hlim
  have md : Mod K mg (hidT s₁.heap H) := ⟨kb, ns0 hns, ⟨mb, ns0 hb, hbb⟩, ⟨mc, ns0 l1, l2⟩⟩
  have nomem : ∀ b : Addr, b ∉ ([] : List Addr) := fun b h => by cases h
  have e0 : Env0 P w K mg (hidT s₁.heap H) callerA [] s₁ H :=
    { frames := rfl, mod := md, bs := fun b o e => of_hidT e, bsz := Nat.le_of_eq (hidT_size _ _), funs := trivial, frf := fun b h => absurd h (nomem b), hok := hok, bare := .of_eq hg }
  have run := (F _ kb (ns0 hns)) [] s₁ H ⟨[.ref a], []⟩ [.ref a] [.ref a] _ _ hr e0 (hbind s₁ (.ref a)) (.cons rfl .nil) hsp
  refine codeAny_mono run fun r s' h => ?_
  match r, h with
  | .error _, h => exact False.elim h
  | .ok .next, h => exact False.elim h
  | .ok .brk, h => exact False.elim h
  | .ok .cont, h => exact False.elim h
  | .ok (.ret u), h =>
    obtain ⟨v, H', os, bare, un, hok', rv, q⟩ := h
    have ev : v = .bl true := q
    subst ev
    have eu : u = Value.bool true := rv
    subst eu
    refine ⟨rfl, OldK.of_keep fun b o e => ?_, os, bare⟩
    cases hb : H b with
    | none => exact un.keep b o e hb (nomem b) (nomem b)
    | some y =>
      rcases hO b with z | ⟨ob, xs, z⟩
      · rw [hb] at z
        cases z
      · obtain ⟨g1, _⟩ := hok b _ z
        obtain ⟨g2, _⟩ := hok' b _ (un.frzs b ob _ z)
        rw [e] at g1
        cases g1
        exact g2
theorem call_at {mb : Str → Option Value} {k : Nat} {fa a : Addr} {fd : FuncData} {x : Str} {sp : Sp} {s₁ : Shared} {vs : List Value} {ns : List Int} (KX : K.In s₁.heap) (hns : s₁.heap.Ns mainGlobals mg) (hb : s₁.heap.Ns builtinsNs mb)
    (hbb : ∀ x : Str, x ≠ "__name__" → mb x = bootBuiltins x) (hlim : s₁.heap.NoLimit) (hg : s₁.gens = #[]) (ha : s₁.heap.get? a = some { cls := .type "list", data := .seq vs.toArray }) (hi : IntsAre vs ns) (hl : ns.length ≤ sizeLine) (hr : Room k callerA)
    (F : ∀ base : Heap, K.In base → base.Ns mainGlobals mg → RunAt callerA P w K mg base CX0 k fa fd [x] sp) (hbind : ∀ (s : Shared) (u : Value), BindsTo s fd ⟨[u], []⟩ [(x, u)])
    (hsp : ∀ H : Hp, Only H → SqL K H a (ns.map V.int) → sp [.ref a] H (fun v _ => v = .bl true) fun _ _ _ => False) :
    codeAny (model P w) callerA (.call (.ref fa) ⟨[.ref a], []⟩) (fun r s' => r = .ok (.ret (.bool true)) ∧ OldK s₁.heap s'.heap ∧ s'.os = s₁.os ∧ AllBare s'.gens) s₁ := by
  have rv := vals_ints hi
  have lv := hi.length
  cases hk : K.lookup a with
  | some o =>
    have e := KX a o hk
    rw [ha] at e
    cases e
    have hO : Only fun _ => none := fun _ => .inl rfl
    exact heap_at (ns := ns) KX hns hb hbb hlim hg ha hr F hbind (fun _ => none) hO (hsp _ hO (.inr ⟨_, vs.toArray, _, hk, rfl, rfl, rfl, by rw [List.size_toArray, lv]; exact hl, by simpa using rv⟩)) (fun b u z => nomatch z) fun b u z => nomatch z
  | none =>
    let ob : Obj := { cls := .type "list", data := .seq vs.toArray }
    let H : Hp := fun b => if b = a then some (.frz ob (.lst (ns.map V.int))) else none
    have at_ : H a = some (.frz ob (.lst (ns.map V.int))) := if_pos rfl
    have off : ∀ b u, H b = some u → b = a := fun b u z => by
      by_cases h : b = a
      · exact h
      · have z' : (if b = a then some (HO.frz ob (.lst (ns.map V.int))) else none) = some u := z
        rw [if_neg h] at z'
        cases z'
    have hO : Only H := fun b => by
      by_cases h : b = a
      · subst h
        exact .inr ⟨_, _, at_⟩
      · exact .inl (if_neg h)
    refine heap_at (ns := ns) KX hns hb hbb hlim hg ha hr F hbind H hO (hsp H hO (.inl (.inr ⟨ob, at_⟩))) (fun b u z => ?_) fun b u z => ⟨off b u z, hk⟩
    have h := off b u z
    subst h
    rw [at_] at z
    cases z
    exact ⟨ha, by rw [List.length_map]; exact hl, vs, _, rv, ha⟩
end
/-- the law's end, its promise asked where the caller calls it -/
theorem walk_at {l : PySem.W.OpenLaw} {n k : Nat} {q : Program} {loose : List Str} {XP : (Str → Option Value) → Heap → Prop} {YP : World → Heap → Prop} {d : DefRec} {K : Params → PySem.W.Frag} {sp : World → Sp} {x : Str}
    (hn : l.most = some n) (hn2 : n ≤ sizeLine) (hdf : d.params.defaults = []) (hr : Room k callerA) (hY : ∀ (w : World) (h : Heap), YP w h → (K w.params).In h)
    (F : ∀ (w : World) (mg : Str → Option Value) (fa : Addr) (h : Heap), (K w.params).In h → h.Ns mainGlobals mg → mg d.name = some (.ref fa) →
      ∃ fd : FuncData, (∀ (s : Shared) (u : Value), BindsTo s fd ⟨[u], []⟩ [(x, u)]) ∧ ∀ base : Heap, (K w.params).In base → base.Ns mainGlobals mg → RunAt callerA l.prog w (K w.params) mg base CX0 k fa fd [x] (sp w))
    (hsp : ∀ (w : World) (H : Hp) (a : Addr) (ns : List Int), ns.length ≤ n → Only H → SqL (K w.params) H a (ns.map V.int) → sp w [.ref a] H (fun v _ => v = .bl true) fun _ _ _ => False) :
    PySem.W.WalkO q loose XP YP l.row.toRowW d [] (fun f vs => PySem.call f vs) :=
  Att.attach_call hn hdf fun w s₀ s₁ mg mb fa o pm cd doc a vs ns G Y ho hd hcd hmg hobj hints hlen hg => by
    have KX := hY w _ Y
    obtain ⟨fd, hb, hF⟩ := F w mg fa _ KX G.T.g hmg
    exact call_at KX G.T.g G.T.b G.T.builtins G.T.nolimit hg hobj hints (Nat.le_trans hlen hn2) hr hF hb fun H hO hS => hsp w H a ns hlen hO hS
/-- a promise that carries the guards, where the caller calls -/
theorem run_of {P : Program} {w : World} {K : PySem.W.Frag} {mg : Str → Option Value} {base : Heap} {CX : CXT} {k : Nat} {f : Addr} {fd : FuncData} {ps : List Str} {sp : Sp} (F : Gg.FnG P w K mg base CX k f fd ps sp) : RunAt callerA P w K mg base CX k f fd ps sp :=
  fun outer s H args us vs Q E hr e0 hb r h => F.run callerA outer s H args us vs Q E rfl hr e0 hb r h
end Gy

set_option linter.all false
set_option maxHeartbeats 2000000
/-! the law's own def where the caller runs it, with one table of code objects -/
namespace Gy
open PySem PySem.Spec PyProof.Rows L2
/-- the abstract heap knows the script and the empty table, nothing else -/
def OneTab (H : Hp) (a tp : Addr) : Prop := ∀ b u, H b = some u → (b = tp ∧ u = .tbl #[]) ∨ (b = a ∧ ∃ o xs, u = .frz o (.lst xs))
section
variable {P : Program} {w : World} {K : PySem.W.Frag} {mg : Str → Option Value} {base : Heap}
theorem heap_tab {mb : Str → Option Value} {k : Nat} {fa a cR tp : Addr} {fd : FuncData} {x : Str} {sp : Sp} {s₁ : Shared} {vs : List Value} (KX : K.In s₁.heap) (hns : s₁.heap.Ns mainGlobals mg) (hb : s₁.heap.Ns builtinsNs mb)
    (hbb : ∀ x : Str, x ≠ "__name__" → mb x = bootBuiltins x) (hlim : s₁.heap.NoLimit) (hg : s₁.gens = #[]) (ha : s₁.heap.get? a = some { cls := .type "list", data := .seq vs.toArray }) (hr : Room k callerA)
    (hT : s₁.heap.get? tp = some { cls := .none, data := .fields #[] }) (nT : K.lookup tp = none) (hC : PySem.W.CodeHd s₁.heap cR tp)
    (hm : ∃ (bm : Addr) (ob : Obj), mg "__builtins__" = some (.ref bm) ∧ bm ≠ builtinsNs ∧ s₁.heap.get? bm = some ob ∧ ob.cls = .type "module" ∧ ob.dict = some builtinsNs ∧ ob.data = .plain)
    (F : ∀ base : Heap, K.In base → base.Ns mainGlobals mg → LamX.TabB base mg cR tp → RunAt callerA P w K mg base CX0 k fa fd [x] sp) (hbind : ∀ (s : Shared) (u : Value), BindsTo s fd ⟨[u], []⟩ [(x, u)])
    (H : Hp) (hO : OneTab H a tp) (hH : H tp = some (.tbl #[])) (hsp : sp [.ref a] H (fun v _ => v = .bl true) fun _ _ _ => False) (hok : HOk P w H s₁.heap) (hA : H a ≠ none → K.lookup a = none) :
    codeAny (model P w) callerA (.call (.ref fa) ⟨[.ref a], []⟩) (fun r s' => r = .ok (.ret (.bool true)) ∧ OldK s₁.heap s'.heap ∧ s'.os = s₁.os ∧ AllBare s'.gens) s₁ := by
  -- what is neither a list nor the table is not tracked
  have free : ∀ {b : Addr} {o : Obj}, s₁.heap.get? b = some o → b ≠ tp → b ≠ a → H b = none := fun {b o} _ n1 n2 => by
    cases q : H b with
    | none => rfl
    | some u => rcases hO b u q with ⟨z, _⟩ | ⟨z, _⟩ <;> contradiction
  have nsne : ∀ {b : Addr} {m : Str → Option Value}, s₁.heap.Ns b m → b ≠ tp ∧ b ≠ a := fun {b m} ⟨o, es, ep, e, hd, _⟩ => by
    constructor
    · rintro rfl
      rw [hT] at e
      cases e
      cases hd
    · rintro rfl
      rw [ha] at e
      cases e
      cases hd
  have ns0 : ∀ {b : Addr} {m : Str → Option Value}, s₁.heap.Ns b m → (hidT s₁.heap H).Ns b m := fun {b m} z => by
    obtain ⟨n1, n2⟩ := nsne z
    obtain ⟨o, es, ep, e, hd, r⟩ := z
    exact ⟨o, es, ep, hidT_get e (free e n1 n2), hd, r⟩
  have kb : K.In (hidT s₁.heap H) := fun b o e => hidT_get (KX b o e) (by
    cases q : H b with
    | none => rfl
    | some u =>
      rcases hO b u q with ⟨z, _⟩ | ⟨z, _⟩
      · rw [z, nT] at e
        cases e
      · rw [z] at q e
        rw [hA (by rw [q]; exact fun z => nomatch z)] at e
        cases e)
  obtain ⟨mc, l1, l2⟩ := hlim
  have md : Mod K mg (hidT s₁.heap H) := ⟨kb, ns0 hns, ⟨mb, ns0 hb, hbb⟩, ⟨mc, ns0 l1, l2⟩⟩
  have nomem : ∀ b : Addr, b ∉ ([] : List Addr) := fun b h => by cases h
  have e0 : Env0 P w K mg (hidT s₁.heap H) callerA [] s₁ H :=
    { frames := rfl, mod := md, bs := fun b o e => of_hidT e, bsz := Nat.le_of_eq (hidT_size _ _), funs := trivial, frf := fun b h => absurd h (nomem b), hok := hok, bare := .of_eq hg }
  have tb : LamX.TabB (hidT s₁.heap H) mg cR tp := by
    refine { code := ?_, bm := ?_, gP := (nsne hns).1 }
    · obtain ⟨o, us, file, tf, flags, tg, inF, text, tt, e1, r1, r2, r⟩ := hC
      refine ⟨o, us, file, tf, flags, tg, inF, text, tt, hidT_get e1 (free e1 ?_ ?_), r1, r2, r⟩
      · exact r.2.2.2.2.2.2
      · rintro rfl
        rw [ha] at e1
        cases e1
        cases r2
    · obtain ⟨bm, ob, b1, b2, b3, b4, b5, b6⟩ := hm
      have n1 : bm ≠ tp := by
        rintro rfl
        rw [hT] at b3
        cases b3
        cases b6
      have n2 : bm ≠ a := by
        rintro rfl
        rw [ha] at b3
        cases b3
        cases b6
      have n3 : bm ≠ mainGlobals := by
        rintro rfl
        obtain ⟨o, es, ep, e, hd, _⟩ := hns
        rw [b3] at e
        cases e
        rw [b6] at hd
        cases hd
      exact ⟨bm, ob, b1, b2, n3, n1, hidT_get b3 (free b3 n1 n2), b4, b5, b6⟩
  have run := (F _ kb (ns0 hns) tb) [] s₁ H ⟨[.ref a], []⟩ [.ref a] [.ref a] _ _ hr e0 (hbind s₁ (.ref a)) (.cons rfl .nil) hsp
  refine codeAny_mono run fun r s' h => ?_
  match r, h with
  | .error _, h => exact False.elim h
  | .ok .next, h => exact False.elim h
  | .ok .brk, h => exact False.elim h
  | .ok .cont, h => exact False.elim h
  | .ok (.ret u), h =>
    obtain ⟨v, H', os, bare, un, hok', rv, q⟩ := h
    have ev : v = .bl true := q
    subst ev
    have eu : u = Value.bool true := rv
    subst eu
    have other : ∀ b o, b ≠ tp → s₁.heap.get? b = some o → s'.heap.get? b = some o := fun b o nb e => by
      cases hb : H b with
      | none => exact un.keep b o e hb (nomem b) (nomem b)
      | some y =>
        rcases hO b y hb with ⟨z, _⟩ | ⟨_, ob, xs, rfl⟩
        · exact absurd z nb
        · obtain ⟨g1, _⟩ := hok b _ hb
          obtain ⟨g2, _⟩ := hok' b _ (un.frzs b ob _ hb)
          rw [e] at g1
          cases g1
          exact g2
    obtain ⟨more, hmore⟩ := un.tbls tp #[] hH
    have htab : s'.heap.get? tp = some { cls := .none, data := .fields (#[] ++ more) } := hok' tp _ hmore
    refine ⟨rfl, ⟨fun b o e => ?_, fun b o e => ?_⟩, os, bare⟩
    · by_cases hb : b = tp
      · subst hb
        rw [hT] at e
        cases e
        exact .inr (.inl ⟨(hC.tab hT).isCodeTable, rfl, #[], more, rfl, htab⟩)
      · exact .inl (other b o hb e)
    · by_cases hb : b = tp
      · subst hb
        exact ⟨_, htab⟩
      · exact ⟨o, other b o hb e⟩
theorem call_tab {mb : Str → Option Value} {k : Nat} {fa a cR tp : Addr} {fd : FuncData} {x : Str} {sp : Sp} {s₁ : Shared} {vs : List Value} {ns : List Int} (KX : K.In s₁.heap) (hns : s₁.heap.Ns mainGlobals mg) (hb : s₁.heap.Ns builtinsNs mb)
    (hbb : ∀ x : Str, x ≠ "__name__" → mb x = bootBuiltins x) (hlim : s₁.heap.NoLimit) (hg : s₁.gens = #[]) (ha : s₁.heap.get? a = some { cls := .type "list", data := .seq vs.toArray }) (hi : IntsAre vs ns) (hl : ns.length ≤ sizeLine) (hr : Room k callerA)
    (hT : s₁.heap.get? tp = some { cls := .none, data := .fields #[] }) (nT : K.lookup tp = none) (hC : PySem.W.CodeHd s₁.heap cR tp)
    (hm : ∃ (bm : Addr) (ob : Obj), mg "__builtins__" = some (.ref bm) ∧ bm ≠ builtinsNs ∧ s₁.heap.get? bm = some ob ∧ ob.cls = .type "module" ∧ ob.dict = some builtinsNs ∧ ob.data = .plain)
    (F : ∀ base : Heap, K.In base → base.Ns mainGlobals mg → LamX.TabB base mg cR tp → RunAt callerA P w K mg base CX0 k fa fd [x] sp) (hbind : ∀ (s : Shared) (u : Value), BindsTo s fd ⟨[u], []⟩ [(x, u)])
    (hsp : ∀ H : Hp, H tp = some (.tbl #[]) → SqL K H a (ns.map V.int) → sp [.ref a] H (fun v _ => v = .bl true) fun _ _ _ => False) :
    codeAny (model P w) callerA (.call (.ref fa) ⟨[.ref a], []⟩) (fun r s' => r = .ok (.ret (.bool true)) ∧ OldK s₁.heap s'.heap ∧ s'.os = s₁.os ∧ AllBare s'.gens) s₁ := by
  have rv := vals_ints hi
  have lv := hi.length
  have nta : a ≠ tp := by
    rintro rfl
    rw [hT] at ha
    cases ha
  have tok : HOk P w (upd (fun _ => none) tp (.tbl #[])) s₁.heap := fun b u z => by
    by_cases h : b = tp
    · subst h
      rw [upd_same] at z
      cases z
      exact hT
    · rw [upd_ne h] at z
      cases z
  cases hk : K.lookup a with
  | some o =>
    have e := KX a o hk
    rw [ha] at e
    cases e
    refine heap_tab KX hns hb hbb hlim hg ha hr hT nT hC hm F hbind (upd (fun _ => none) tp (.tbl #[])) (fun b u z => ?_) upd_same (hsp _ upd_same (.inr ⟨_, vs.toArray, _, hk, rfl, rfl, rfl, by rw [List.size_toArray, lv]; exact hl, by simpa using rv⟩)) tok fun z => absurd (by rw [upd_ne nta]) z
    by_cases h : b = tp
    · subst h
      rw [upd_same] at z
      exact .inl ⟨rfl, (Option.some.inj z).symm⟩
    · rw [upd_ne h] at z
      cases z
  | none =>
    let ob : Obj := { cls := .type "list", data := .seq vs.toArray }
    have ha1 : upd (upd (fun _ => none) tp (.tbl #[])) a (.frz ob (.lst (ns.map V.int))) a = some (.frz ob (.lst (ns.map V.int))) := upd_same
    have ht1 : upd (upd (fun _ => none) tp (.tbl #[])) a (.frz ob (.lst (ns.map V.int))) tp = some (.tbl #[]) := by rw [upd_ne nta.symm, upd_same]
    refine heap_tab KX hns hb hbb hlim hg ha hr hT nT hC hm F hbind (upd (upd (fun _ => none) tp (.tbl #[])) a (.frz ob (.lst (ns.map V.int)))) (fun b u z => ?_) ht1 (hsp _ ht1 (.inl (.inr ⟨ob, ha1⟩))) (fun b u z => ?_) fun _ => hk
    · by_cases h : b = a
      · subst h
        rw [upd_same] at z
        exact .inr ⟨rfl, ob, _, (Option.some.inj z).symm⟩
      · rw [upd_ne h] at z
        by_cases h2 : b = tp
        · subst h2
          rw [upd_same] at z
          exact .inl ⟨rfl, (Option.some.inj z).symm⟩
        · rw [upd_ne h2] at z
          cases z
    · by_cases h : b = a
      · subst h
        rw [upd_same] at z
        cases z
        exact ⟨ha, by rw [List.length_map]; exact hl, vs, _, rv, ha⟩
      · rw [upd_ne h] at z
        by_cases h2 : b = tp
        · subst h2
          rw [upd_same] at z
          cases z
          exact hT
        · rw [upd_ne h2] at z
          cases z
end
/-- the law's end with one table, its promise asked where the caller calls it -/
theorem walk_tab {l : PySem.W.OpenLaw} {n k : Nat} {q : Program} {loose : List Str} {XP : (Str → Option Value) → Heap → Prop} {YP : World → Heap → Prop} {d : DefRec} {K : Params → PySem.W.Frag} {x : Str}
    (hn : l.most = some n) (hn2 : n ≤ sizeLine) (hdf : d.params.defaults = []) (hr : Room k callerA) (hY : ∀ (w : World) (h : Heap), YP w h → (K w.params).In h)
    (F : ∀ (w : World) (mg : Str → Option Value) (fa : Addr) (h : Heap), YP w h → (K w.params).In h → h.Ns mainGlobals mg → mg d.name = some (.ref fa) →
      ∃ (fd : FuncData) (cR tp : Addr) (sp : Sp), h.get? tp = some { cls := .none, data := .fields #[] } ∧ (K w.params).lookup tp = none ∧ PySem.W.CodeHd h cR tp ∧ (∀ (s : Shared) (u : Value), BindsTo s fd ⟨[u], []⟩ [(x, u)]) ∧
        (∀ (H : Hp) (a : Addr) (ns : List Int), ns.length ≤ n → H tp = some (.tbl #[]) → SqL (K w.params) H a (ns.map V.int) → sp [.ref a] H (fun v _ => v = .bl true) fun _ _ _ => False) ∧
        ∀ base : Heap, (K w.params).In base → base.Ns mainGlobals mg → LamX.TabB base mg cR tp → RunAt callerA l.prog w (K w.params) mg base CX0 k fa fd [x] sp) :
    PySem.W.WalkO q loose XP YP l.row.toRowW d [] (fun f vs => PySem.call f vs) :=
  Att.attach_call hn hdf fun w s₀ s₁ mg mb fa o pm cd doc a vs ns G Y ho hd hcd hmg hobj hints hlen hg => by
    have KX := hY w _ Y
    obtain ⟨fd, cR, tp, sp, hT, nT, hC, hb, hsp, hF⟩ := F w mg fa _ Y KX G.T.g hmg
    exact call_tab KX G.T.g G.T.b G.T.builtins G.T.nolimit hg hobj hints (Nat.le_trans hlen hn2) hr hT nT hC G.T.bmain hF hb fun H hH hS => hsp H a ns hlen hH hS
end Gy

set_option maxHeartbeats 1000000
namespace Mw
open PySem L2 Gg
theorem hids_go {B : Addr} {H H1 : Hp} (g : Go B H H1) : Same (hids [B] H) (hids [B] H1) := fun a o h => by
  obtain ⟨n, h1⟩ := hids_in h
  rw [hids_ne n]
  exact g.ext a o (fun e => n (List.mem_singleton.mpr e)) h1
theorem Box.ext {H H' : Hp} {B d : Addr} (s : ExtN H H') (b : Box H B d) : Box H' B d := by
  obtain ⟨ds, i, h, hd, hi⟩ := b
  exact ⟨ds, i, s _ _ h (fun ps z => by cases z), s _ _ hd (fun ps z => by cases z), hi⟩
theorem Tabs.go {T : List (Addr × Str)} {B d : Addr} {H H' : Hp} (t : Tabs T H) (b : Box H B d) (g : Go B H H') : Tabs T H' := fun p hp => by
  obtain ⟨ds, i, hB, _⟩ := b
  obtain ⟨ps, h1, h2, h3⟩ := t p hp
  refine ⟨ps, g.ext _ _ (by rintro e; rw [e, hB] at h1; cases h1) h1, h2, fun pos cv hc => ?_⟩
  obtain ⟨c, e1, e2⟩ := h3 pos cv hc
  exact ⟨c, e1, g.ext _ _ (by rintro rfl; rw [hB] at e2; unfold LamX.CodeO at e2; cases e2) e2⟩
section
variable {P : Program} {w : World} {K : PySem.W.Frag} {mg : Str → Option Value} {base : Heap} {C CL : Addr}
abbrev sLaw : Stmt := top 47
abbrev nLaw : List Str := ["script", "box", "turn", "language", "message"]
theorem scLaw : FnScope nLaw ["script"] (defScope sLaw) := ⟨rfl, rfl, rfl, by decide +kernel, rfl, by decide +kernel, by decide +kernel⟩
def spLaw (K : PySem.W.Frag) (tp : Addr) : Sp := fun vs H Q _ => ∃ (a : Addr) (ns : List Int), vs = [.ref a] ∧ SqL K H a (ns.map V.int) ∧ H tp = some (.tbl #[]) ∧ ∀ H', Q (.bl true) H'
theorem ok_law {f fB fL fM fS fK fF tp : Addr} {fd fdB fdL fdM fdS fdK fdF : FuncData} (F : Fun K "law" "law" sLaw f fd)
    (GB : FnOk P w K mg base CX0 2 fB fdB ["script", "first", "last"] (spBox K 45)) (bB : Binds K fdB ["script", "first", "last"] []) (kB : PySem.W.keepIn K (.ref fB) = true) (mB : mg "_law_box" = some (.ref fB))
    (GL : FnOk P w K mg base CX0 4 fL fdL ["box"] (spLg CL)) (bL : Binds K fdL ["box"] []) (kL : PySem.W.keepIn K (.ref fL) = true) (mL : mg "_law_language" = some (.ref fL))
    (GM : ∀ d, FnOk P w K mg base CX0 (d + 2) fM fdM ["box", "depth", "inside", "numbers"] (spMsg d)) (bM : Binds K fdM ["box", "depth", "inside", "numbers"] []) (kM : PySem.W.keepIn K (.ref fM) = true) (mM : mg "_law_message" = some (.ref fM))
    (GS : FnG P w K mg base CX0 1 fS fdS ["one", "other"] (spSame K)) (bS : Binds K fdS ["one", "other"] []) (kS : PySem.W.keepIn K (.ref fS) = true) (mS : mg "_law_same" = some (.ref fS))
    (GK : FnOk P w K mg base CX0 10 fK fdK ["message", "language"] (spLk K CL tp)) (bK : Binds K fdK ["message", "language"] []) (kK : PySem.W.keepIn K (.ref fK) = true) (mK : mg "lacks" = some (.ref fK))
    (GF : FnOk P w K mg base CX0 4 fF fdF ["message", "language", "path"] (spLl K CL 2)) (bF : Binds K fdF ["message", "language", "path"] []) (kF : PySem.W.keepIn K (.ref fF) = true) (mF : mg "_law_left" = some (.ref fF))
    (mr : mg "range" = none) : FnG P w K mg base CX0 11 f fd ["script"] (spLaw K tp) := by
  refine okG F scLaw (fun vs H Q E h => ?_) (fun A cdv outer s H vs Q E gd hr h => ?_)
  · obtain ⟨a, ns, rfl, _⟩ := h
    rfl
  obtain ⟨a, ns, rfl, hS, hTb, q⟩ := h
  have nd := scLaw.nd
  refine ⟨_, (pss_cons (ps_set (i := 1) nd rfl (.inl rfl) (pe_call GB (hr.mono (by decide)) rfl mB kB bB .nil pass0 (pa_cons (pv 0) (pa_cons pe_int (pa_cons pe_int pa_nil)))))
      (pss_cons (ps_for PassesOwn.never rfl (pi_range1 rfl mr (pa_cons pe_int pa_nil)) (pg_name (i := 2) nd rfl (.inl rfl)) (pss_cons (ps_set (i := 3) nd rfl (.inl rfl) (pe_call GL (hr.mono (by decide)) rfl mL kL bL .nil pass0 (pa_cons (pv 1) pa_nil)))
      (pss_cons (ps_set (i := 4) nd rfl (.inl rfl) (pe_call (GM 2) (hr.mono (by decide)) rfl mM kM bM .nil pass0 (pa_cons (pv 1) (pa_cons pe_int (pa_cons pe_bl (pa_cons (pe_lst (pa_cons pe_str (pa_cons pe_str (pa_cons pe_str pa_nil)))) pa_nil))))))
      (pss_one (ps_if (pt_not (pt_val (pe_callG gd GS (hr.mono (by decide)) rfl mS kS bS .nil pass0 (pa_cons (pe_call GK (hr.mono (by decide)) rfl mK kK bK .nil pass0 (pa_cons (pv 4) (pa_cons (pv 3) pa_nil))) (pa_cons (pe_call GF (hr.mono (by decide)) rfl mF kF bF .nil pass0 (pa_cons (pv 4) (pa_cons (pv 3) (pa_cons (pe_tup pa_nil) pa_nil)))) pa_nil))))) (pss_one (ps_ret pe_bl)) pss_nil)))))
      (pss_one (ps_ret pe_bl)))), ?_⟩
  refine ⟨_, rfl, a, ns, rfl, hS, fun B d H0 hB hd s0 b0 => ?_⟩
  have T0 : Tabs (tbs tp) H0 := fun p hp => by
    rw [List.mem_singleton.mp hp]
    exact LamX.TabS.nil (s0 _ _ hTb)
  refine ⟨2, rfl, by decide, by decide, for_range (lo := 0) (n := 2) (fun i σ H' => (∃ o2 o3 o4, σ = [some (.ref a), some (.ref B), o2, o3, o4]) ∧ Box H' B d ∧ Tabs (tbs tp) H') ⟨⟨_, _, _, rfl⟩, b0, T0⟩ ?_ (fun σ H' _ => q H')⟩
  rintro i σ H1 hi ⟨⟨o2, o3, o4, rfl⟩, b1, T1⟩
  refine ⟨_, rfl, B, d, rfl, b1, fun lo ldx lq rs H2 g2 b2 hlo0 hlo hrs hok h43 => ?_⟩
  have T2 := T1.go b1 g2
  have loB : lo ≠ B := by
    rintro rfl
    obtain ⟨ob, e⟩ := b1.isB
    rw [hlo0] at e
    cases e
  refine ⟨_, rfl, by show 3 ≤ sizeLine; decide, fun na hna => ?_⟩
  have G23 := Go.new (B := B) hna (.lst [.str "n", .str "n", .str "m"])
  have b3 := b2.new hna (.lst [.str "n", .str "n", .str "m"])
  have T3 := T2.go b2 G23
  have hna3 : upd H2 na (.lst [.str "n", .str "n", .str "m"]) na = some (.lst (numsL.map V.str)) := upd_same
  generalize upd H2 na (.lst [.str "n", .str "n", .str "m"]) = H3 at G23 b3 T3 hna3
  refine ⟨B, d, na, false, rfl, b3, hna3, fun r H4 t g4 b4 hr4 hgd hsz hlen => ?_⟩
  have G24 := G23.trans g4
  have T4 := T3.go b3 g4
  have hlo4 := G24.ext _ _ loB hlo
  have hrs4 : RusAt H4 rs lq := (hrs.same (hids_go G24)).same hids_out
  have hat4 : At H4 r t := hr4.same fr_out
  obtain ⟨hw, hso, hdep, hkd⟩ := hgd.all fun e => by cases e
  have hsz4 : t.sz ≤ 1868 := hsz
  have hplu : ∀ x ∈ t.ch 0 [], PluOk x.2 := gd_plu 0 [] hgd (by omega)
  have hxok : ∀ x ∈ (t.ch 0 []).filter fun x => x.2.isPlu, XOk x := fun x hx => by
    obtain ⟨h1, h2⟩ := List.mem_filter.mp hx
    obtain ⟨p1, p2⟩ := ch_places (c := false) 0 [] hw hkd (fun e => by cases e) (by omega) (fun v hv => by cases hv) x h1
    simp only [List.length_nil, Bool.false_eq_true, if_false] at p2
    exact ⟨p1, by omega, hplu x h1, h2⟩
  have hnum : ((t.ch 0 []).filter fun x => x.2.isPlu).length ≤ 2000 := by
    have h1 := filt_le (t.ch 0 []) fun x => x.2.isPlu
    have h2 := ch_len t 0 []
    omega
  refine ⟨_, rfl, _, rfl, r, lo, ldx, t, lq, rs, rfl, hat4, hw, by omega, hplu, hlo4, hrs4, hok, T4, fun l5 H5 vs5 e5 T5 h5 a5 => ?_⟩
  have hat5 : At H5 r t := by
    obtain ⟨mv, m1, m2⟩ := hat4
    exact ⟨mv, (LtK.ext e5 _).1 _ m1, Nodes.lt (LtK.ext e5) m2⟩
  have hlan5 : LanAt CL H5 rs (.ref lo) := ⟨lo, ldx, lq, rfl, e5 _ _ hlo4 (fun ps z => by cases z), RusAt.ext e5 _ _ hrs4⟩
  refine ⟨_, rfl, _, rfl, Nat.zero_le _, fun t0 ht0 => ?_⟩
  have s6 : Same H5 (upd H5 t0 (.tup [])) := same_new ht0 _
  refine ⟨r, t0, .ref lo, t, rs, [], rfl, hat5.same s6, hw, hdep, by omega, hplu, hlan5.same s6, hok, h43, SqT.of upd_same, by decide, fun l7 H7 vs7 s7 hl7 h7 a7 => ?_⟩
  have s57 := s6.trans s7
  have d5 : Dp K H7 (.ref l5) (.list (((t.ch 0 []).filter fun x => x.2.isPlu).map (dLk rs))) := .lst (SqL.of (s57 _ _ h5)) (lk_dp hok h43 hxok (a5.mono (LkAt.same s57)))
  have d7 : Dp K H7 (.ref l7) (.list (((t.ch 0 []).filter fun x => x.2.isPlu).map (dLk rs))) := .lst (SqL.of h7) (lk_dp hok h43 hxok a7)
  have sh := lk_sh h43 hxok hnum
  refine ⟨_, _, _, _, rfl, d5, d7, sh, sh, _, rfl, ?_⟩
  rw [decide_eq_true rfl]
  exact ⟨⟨_, _, _, rfl⟩, (b4.ext e5).same s57, T5.same s57⟩
end
end Mw

namespace Mw
open PySem L2 Gg
section
variable {P : Program} {w : World} {K : PySem.W.Frag} {mg : Str → Option Value} {base : Heap} {C : Addr}
theorem all_ll {f fC : Addr} {fd fdC : FuncData} (F : Fun K "_law_left" "_law_left" sLl f fd) (bF : Binds K fd ["message", "language", "path"] []) (mF : mg "_law_left" = some (.ref f)) (L : LC K C)
    (GC : FnOk P w K mg base CX0 1 fC fdC ["language", "number"] (spLc C)) (bC : Binds K fdC ["language", "number"] []) (kC : PySem.W.keepIn K (.ref fC) = true) (mC : mg "_law_category" = some (.ref fC))
    (mr : mg "range" = none) (ml : mg "len" = none) (mli : mg "list" = none) : ∀ d, FnOk P w K mg base CX0 (d + 2) f fd ["message", "language", "path"] (spLl K C d)
  | 0 => ok_ll (k := 1) (Nat.le_refl _) F L GC bC kC mC (none_left fun vs H Q E ⟨_, e, _⟩ => by omega) bF F.kp mF mr ml mli
  | d + 1 => ok_ll (k := d + 2) (by omega) F L GC bC kC mC ((all_ll F bF mF L GC bC kC mC mr ml mli d).imp fun vs H Q E ⟨e, he, h⟩ => by
      cases he
      exact h) bF F.kp mF mr ml mli
end
set_option maxHeartbeats 0 in
theorem all_mk {l : PySem.W.OpenLaw} {w : World} {K : PySem.W.Frag} {h : Heap} {mg : Str → Option Value} {fa f1 f2 f3 f4 f5 f6 f7 f8 f9 f10 f11 f12 f13 f14 f15 f16 f17 f18 f19 f20 f21 f22 f23 f24 f25 f26 f27 f28 f29 f30 f31 f32 f33 f34 f35 m1 m2 m3 m4 C S nN hN cN nA hA cA cR tp : Addr} (X : K.In h) (G : h.Ns mainGlobals mg) (hfa : mg "law" = some (.ref fa))
    {kN khN kcN kA khA kcA : Nat} {dN dA : Option Addr} {sN shN scN sA shA scA : Array (Option Value)}
    {od1 an1 od2 an2 od3 an3 od4 an4 od5 an5 od6 an6 od7 an7 od8 an8 od9 an9 od10 an10 od11 an11 od12 an12 od13 an13 od14 an14 od15 an15 od16 an16 od17 an17 od18 an18 od19 an19 od20 an20 od21 an21 od22 an22 od23 an23 od24 an24 od25 an25 od26 an26 od27 an27 od28 an28 od29 an29 od30 an30 od31 an31 od32 an32 od33 an33 od34 an34 od35 an35 mod1 man1 mod2 man2 mod3 man3 mod4 man4 : Option Addr} {sl1 sl2 sl3 sl4 sl5 sl6 sl7 sl8 sl9 sl10 sl11 sl12 sl13 sl14 sl15 sl16 sl17 sl18 sl19 sl20 sl21 sl22 sl23 sl24 sl25 sl26 sl27 sl28 sl29 sl30 sl31 sl32 sl33 sl34 sl35 msl1 msl2 msl3 msl4 : Array (Option Value)} {oc1 kV1 dc1 pm1 ct1 cd1 oc2 kV2 dc2 pm2 ct2 cd2 oc3 kV3 dc3 pm3 ct3 cd3 oc4 kV4 dc4 pm4 ct4 cd4 oc5 kV5 dc5 pm5 ct5 cd5 oc6 kV6 dc6 pm6 ct6 cd6 oc7 kV7 dc7 pm7 ct7 cd7 oc8 kV8 dc8 pm8 ct8 cd8 oc9 kV9 dc9 pm9 ct9 cd9 oc10 kV10 dc10 pm10 ct10 cd10 oc11 kV11 dc11 pm11 ct11 cd11 oc12 kV12 dc12 pm12 ct12 cd12 oc13 kV13 dc13 pm13 ct13 cd13 oc14 kV14 dc14 pm14 ct14 cd14 oc15 kV15 dc15 pm15 ct15 cd15 oc16 kV16 dc16 pm16 ct16 cd16 oc17 kV17 dc17 pm17 ct17 cd17 oc18 kV18 dc18 pm18 ct18 cd18 oc19 kV19 dc19 pm19 ct19 oc20 kV20 dc20 pm20 ct20 cd20 oc21 kV21 dc21 pm21 ct21 cd21 oc22 kV22 dc22 pm22 ct22 cd22 oc23 kV23 dc23 pm23 ct23 cd23 oc24 kV24 dc24 pm24 ct24 cd24 oc25 kV25 dc25 pm25 ct25 cd25 oc26 kV26 dc26 pm26 ct26 cd26 oc27 kV27 dc27 pm27 ct27 cd27 oc28 kV28 dc28 pm28 ct28 cd28 oc29 kV29 dc29 pm29 ct29 cd29 oc30 kV30 dc30 pm30 ct30 cd30 oc31 kV31 dc31 pm31 ct31 cd31 oc32 kV32 dc32 pm32 ct32 cd32 oc33 kV33 dc33 pm33 ct33 cd33 oc34 kV34 dc34 pm34 ct34 cd34 oc35 kV35 dc35 pm35 ct35 cd35 moc1 mkV1 mdc1 mpm1 mcd1 mct1 moc2 mkV2 mdc2 mpm2 mcd2 mct2 moc3 mkV3 mdc3 mpm3 mcd3 mct3 moc4 mkV4 mdc4 mpm4 mcd4 mct4 : Value}
    (a1 : PySem.W.nsIn K mainGlobals "is_choice" = some (some (.ref f1))) (l1 : K.lookup f1 = some ⟨oc1, od1, .func (PySem.W.fnOf "is_choice" "is_choice" (defArgs sIs) (defBody sIs) (defScope sIs) .none kV1 dc1 pm1 an1 cd1 ct1), sl1⟩) (c1 : PySem.W.codeIn K cd1 "is_choice" = true) (k1 : PySem.W.keepIn K (.ref f1) = true)
    (a2 : PySem.W.nsIn K mainGlobals "cases_of" = some (some (.ref f2))) (l2 : K.lookup f2 = some ⟨oc2, od2, .func (PySem.W.fnOf "cases_of" "cases_of" (defArgs sCases) (defBody sCases) (defScope sCases) .none kV2 dc2 pm2 an2 cd2 ct2), sl2⟩) (c2 : PySem.W.codeIn K cd2 "cases_of" = true) (k2 : PySem.W.keepIn K (.ref f2) = true)
    (a3 : PySem.W.nsIn K mainGlobals "other_of" = some (some (.ref f3))) (l3 : K.lookup f3 = some ⟨oc3, od3, .func (PySem.W.fnOf "other_of" "other_of" (defArgs sOther) (defBody sOther) (defScope sOther) .none kV3 dc3 pm3 an3 cd3 ct3), sl3⟩) (c3 : PySem.W.codeIn K cd3 "other_of" = true) (k3 : PySem.W.keepIn K (.ref f3) = true)
    (a4 : PySem.W.nsIn K mainGlobals "inner_messages" = some (some (.ref f4))) (l4 : K.lookup f4 = some ⟨oc4, od4, .func (PySem.W.fnOf "inner_messages" "inner_messages" (defArgs sInner) (defBody sInner) (defScope sInner) .none kV4 dc4 pm4 an4 cd4 ct4), sl4⟩) (c4 : PySem.W.codeIn K cd4 "inner_messages" = true) (k4 : PySem.W.keepIn K (.ref f4) = true)
    (a5 : PySem.W.nsIn K mainGlobals "copied" = some (some (.ref f5))) (l5 : K.lookup f5 = some ⟨oc5, od5, .func (PySem.W.fnOf "copied" "copied" (defArgs sCd) (defBody sCd) (defScope sCd) .none kV5 dc5 pm5 an5 cd5 ct5), sl5⟩) (c5 : PySem.W.codeIn K cd5 "copied" = true) (k5 : PySem.W.keepIn K (.ref f5) = true)
    (a6 : PySem.W.nsIn K mainGlobals "prime_factors" = some (some (.ref f6))) (l6 : K.lookup f6 = some ⟨oc6, od6, .func (PySem.W.fnOf "prime_factors" "prime_factors" (defArgs sPf) (defBody sPf) (defScope sPf) .none kV6 dc6 pm6 an6 cd6 ct6), sl6⟩) (c6 : PySem.W.codeIn K cd6 "prime_factors" = true) (k6 : PySem.W.keepIn K (.ref f6) = true)
    (a7 : PySem.W.nsIn K mainGlobals "shortest_cycle" = some (some (.ref f7))) (l7 : K.lookup f7 = some ⟨oc7, od7, .func (PySem.W.fnOf "shortest_cycle" "shortest_cycle" (defArgs sSc) (defBody sSc) (defScope sSc) .none kV7 dc7 pm7 an7 cd7 ct7), sl7⟩) (c7 : PySem.W.codeIn K cd7 "shortest_cycle" = true) (k7 : PySem.W.keepIn K (.ref f7) = true)
    (a8 : PySem.W.nsIn K mainGlobals "turned_back" = some (some (.ref f8))) (l8 : K.lookup f8 = some ⟨oc8, od8, .func (PySem.W.fnOf "turned_back" "turned_back" (defArgs sTb) (defBody sTb) (defScope sTb) .none kV8 dc8 pm8 an8 cd8 ct8), sl8⟩) (c8 : PySem.W.codeIn K cd8 "turned_back" = true) (k8 : PySem.W.keepIn K (.ref f8) = true)
    (a9 : PySem.W.nsIn K mainGlobals "settled" = some (some (.ref f9))) (l9 : K.lookup f9 = some ⟨oc9, od9, .func (PySem.W.fnOf "settled" "settled" (defArgs sSe) (defBody sSe) (defScope sSe) .none kV9 dc9 pm9 an9 cd9 ct9), sl9⟩) (c9 : PySem.W.codeIn K cd9 "settled" = true) (k9 : PySem.W.keepIn K (.ref f9) = true)
    (a10 : PySem.W.nsIn K mainGlobals "stretched" = some (some (.ref f10))) (l10 : K.lookup f10 = some ⟨oc10, od10, .func (PySem.W.fnOf "stretched" "stretched" (defArgs sSt) (defBody sSt) (defScope sSt) .none kV10 dc10 pm10 an10 cd10 ct10), sl10⟩) (c10 : PySem.W.codeIn K cd10 "stretched" = true) (k10 : PySem.W.keepIn K (.ref f10) = true)
    (a11 : PySem.W.nsIn K mainGlobals "is_empty" = some (some (.ref f11))) (l11 : K.lookup f11 = some ⟨oc11, od11, .func (PySem.W.fnOf "is_empty" "is_empty" (defArgs sEm) (defBody sEm) (defScope sEm) .none kV11 dc11 pm11 an11 cd11 ct11), sl11⟩) (c11 : PySem.W.codeIn K cd11 "is_empty" = true) (k11 : PySem.W.keepIn K (.ref f11) = true)
    (a12 : PySem.W.nsIn K mainGlobals "is_within" = some (some (.ref f12))) (l12 : K.lookup f12 = some ⟨oc12, od12, .func (PySem.W.fnOf "is_within" "is_within" (defArgs sWi) (defBody sWi) (defScope sWi) .none kV12 dc12 pm12 an12 cd12 ct12), sl12⟩) (c12 : PySem.W.codeIn K cd12 "is_within" = true) (k12 : PySem.W.keepIn K (.ref f12) = true)
    (a13 : PySem.W.nsIn K mainGlobals "complement" = some (some (.ref f13))) (l13 : K.lookup f13 = some ⟨oc13, od13, .func (PySem.W.fnOf "complement" "complement" (defArgs sCp) (defBody sCp) (defScope sCp) .none kV13 dc13 pm13 an13 cd13 ct13), sl13⟩) (c13 : PySem.W.codeIn K cd13 "complement" = true) (k13 : PySem.W.keepIn K (.ref f13) = true)
    (a14 : PySem.W.nsIn K mainGlobals "common" = some (some (.ref f14))) (l14 : K.lookup f14 = some ⟨oc14, od14, .func (PySem.W.fnOf "common" "common" (defArgs sCm) (defBody sCm) (defScope sCm) .none kV14 dc14 pm14 an14 cd14 ct14), sl14⟩) (c14 : PySem.W.codeIn K cd14 "common" = true) (k14 : PySem.W.keepIn K (.ref f14) = true)
    (a15 : PySem.W.nsIn K mainGlobals "union" = some (some (.ref f15))) (l15 : K.lookup f15 = some ⟨oc15, od15, .func (PySem.W.fnOf "union" "union" (defArgs sUn) (defBody sUn) (defScope sUn) .none kV15 dc15 pm15 an15 cd15 ct15), sl15⟩) (c15 : PySem.W.codeIn K cd15 "union" = true) (k15 : PySem.W.keepIn K (.ref f15) = true)
    (a16 : PySem.W.nsIn K mainGlobals "difference" = some (some (.ref f16))) (l16 : K.lookup f16 = some ⟨oc16, od16, .func (PySem.W.fnOf "difference" "difference" (defArgs sDf) (defBody sDf) (defScope sDf) .none kV16 dc16 pm16 an16 cd16 ct16), sl16⟩) (c16 : PySem.W.codeIn K cd16 "difference" = true) (k16 : PySem.W.keepIn K (.ref f16) = true)
    (a17 : PySem.W.nsIn K mainGlobals "moved" = some (some (.ref f17))) (l17 : K.lookup f17 = some ⟨oc17, od17, .func (PySem.W.fnOf "moved" "moved" (defArgs sMv) (defBody sMv) (defScope sMv) .none kV17 dc17 pm17 an17 cd17 ct17), sl17⟩) (c17 : PySem.W.codeIn K cd17 "moved" = true) (k17 : PySem.W.keepIn K (.ref f17) = true)
    (a18 : PySem.W.nsIn K mainGlobals "relation_set" = some (some (.ref f18))) (l18 : K.lookup f18 = some ⟨oc18, od18, .func (PySem.W.fnOf "relation_set" "relation_set" (defArgs sRe) (defBody sRe) (defScope sRe) .none kV18 dc18 pm18 an18 cd18 ct18), sl18⟩) (c18 : PySem.W.codeIn K cd18 "relation_set" = true) (k18 : PySem.W.keepIn K (.ref f18) = true)
    (a19 : PySem.W.nsIn K mainGlobals "row_set" = some (some (.ref f19))) (l19 : K.lookup f19 = some ⟨oc19, od19, .func (PySem.W.fnOf "row_set" "row_set" (defArgs sRw) (defBody sRw) (defScope sRw) .none kV19 dc19 pm19 an19 (.ref cR) ct19), sl19⟩) (c19 : PySem.W.codeIn K (.ref cR) "row_set" = true) (k19 : PySem.W.keepIn K (.ref f19) = true)
    (a20 : PySem.W.nsIn K mainGlobals "condition_set" = some (some (.ref f20))) (l20 : K.lookup f20 = some ⟨oc20, od20, .func (PySem.W.fnOf "condition_set" "condition_set" (defArgs sCo) (defBody sCo) (defScope sCo) .none kV20 dc20 pm20 an20 cd20 ct20), sl20⟩) (c20 : PySem.W.codeIn K cd20 "condition_set" = true) (k20 : PySem.W.keepIn K (.ref f20) = true)
    (a21 : PySem.W.nsIn K mainGlobals "keys_of" = some (some (.ref f21))) (l21 : K.lookup f21 = some ⟨oc21, od21, .func (PySem.W.fnOf "keys_of" "keys_of" (defArgs sKo) (defBody sKo) (defScope sKo) .none kV21 dc21 pm21 an21 cd21 ct21), sl21⟩) (c21 : PySem.W.codeIn K cd21 "keys_of" = true) (k21 : PySem.W.keepIn K (.ref f21) = true)
    (a22 : PySem.W.nsIn K mainGlobals "set_of_numbers" = some (some (.ref f22))) (l22 : K.lookup f22 = some ⟨oc22, od22, .func (PySem.W.fnOf "set_of_numbers" "set_of_numbers" (defArgs sNs) (defBody sNs) (defScope sNs) .none kV22 dc22 pm22 an22 cd22 ct22), sl22⟩) (c22 : PySem.W.codeIn K cd22 "set_of_numbers" = true) (k22 : PySem.W.keepIn K (.ref f22) = true)
    (a23 : PySem.W.nsIn K mainGlobals "choices_within" = some (some (.ref f23))) (l23 : K.lookup f23 = some ⟨oc23, od23, .func (PySem.W.fnOf "choices_within" "choices_within" (defArgs sCw) (defBody sCw) (defScope sCw) .none kV23 dc23 pm23 an23 cd23 ct23), sl23⟩) (c23 : PySem.W.codeIn K cd23 "choices_within" = true) (k23 : PySem.W.keepIn K (.ref f23) = true)
    (a24 : PySem.W.nsIn K mainGlobals "left_out" = some (some (.ref f24))) (l24 : K.lookup f24 = some ⟨oc24, od24, .func (PySem.W.fnOf "left_out" "left_out" (defArgs sLo) (defBody sLo) (defScope sLo) .none kV24 dc24 pm24 an24 cd24 ct24), sl24⟩) (c24 : PySem.W.codeIn K cd24 "left_out" = true) (k24 : PySem.W.keepIn K (.ref f24) = true)
    (a25 : PySem.W.nsIn K mainGlobals "lacks" = some (some (.ref f25))) (l25 : K.lookup f25 = some ⟨oc25, od25, .func (PySem.W.fnOf "lacks" "lacks" (defArgs sLk) (defBody sLk) (defScope sLk) .none kV25 dc25 pm25 an25 cd25 ct25), sl25⟩) (c25 : PySem.W.codeIn K cd25 "lacks" = true) (k25 : PySem.W.keepIn K (.ref f25) = true)
    (a26 : PySem.W.nsIn K mainGlobals "_law_cell" = some (some (.ref f26))) (l26 : K.lookup f26 = some ⟨oc26, od26, .func (PySem.W.fnOf "_law_cell" "_law_cell" (defArgs sCell) (defBody sCell) (defScope sCell) .none kV26 dc26 pm26 an26 cd26 ct26), sl26⟩) (c26 : PySem.W.codeIn K cd26 "_law_cell" = true) (k26 : PySem.W.keepIn K (.ref f26) = true)
    (a27 : PySem.W.nsIn K mainGlobals "_law_row" = some (some (.ref f27))) (l27 : K.lookup f27 = some ⟨oc27, od27, .func (PySem.W.fnOf "_law_row" "_law_row" (defArgs sRow) (defBody sRow) (defScope sRow) .none kV27 dc27 pm27 an27 cd27 ct27), sl27⟩) (c27 : PySem.W.codeIn K cd27 "_law_row" = true) (k27 : PySem.W.keepIn K (.ref f27) = true)
    (a28 : PySem.W.nsIn K mainGlobals "_law_box" = some (some (.ref f28))) (l28 : K.lookup f28 = some ⟨oc28, od28, .func (PySem.W.fnOf "_law_box" "_law_box" (defArgs sBox) (defBody sBox) (defScope sBox) .none kV28 dc28 pm28 an28 cd28 ct28), sl28⟩) (c28 : PySem.W.codeIn K cd28 "_law_box" = true) (k28 : PySem.W.keepIn K (.ref f28) = true)
    (a29 : PySem.W.nsIn K mainGlobals "_law_draw" = some (some (.ref f29))) (l29 : K.lookup f29 = some ⟨oc29, od29, .func (PySem.W.fnOf "_law_draw" "_law_draw" (defArgs sDraw) (defBody sDraw) (defScope sDraw) .none kV29 dc29 pm29 an29 cd29 ct29), sl29⟩) (c29 : PySem.W.codeIn K cd29 "_law_draw" = true) (k29 : PySem.W.keepIn K (.ref f29) = true)
    (a30 : PySem.W.nsIn K mainGlobals "_law_same" = some (some (.ref f30))) (l30 : K.lookup f30 = some ⟨oc30, od30, .func (PySem.W.fnOf "_law_same" "_law_same" (defArgs sSame) (defBody sSame) (defScope sSame) .none kV30 dc30 pm30 an30 cd30 ct30), sl30⟩) (c30 : PySem.W.codeIn K cd30 "_law_same" = true) (k30 : PySem.W.keepIn K (.ref f30) = true)
    (a31 : PySem.W.nsIn K mainGlobals "_law_language" = some (some (.ref f31))) (l31 : K.lookup f31 = some ⟨oc31, od31, .func (PySem.W.fnOf "_law_language" "_law_language" (defArgs sLg) (defBody sLg) (defScope sLg) .none kV31 dc31 pm31 an31 cd31 ct31), sl31⟩) (c31 : PySem.W.codeIn K cd31 "_law_language" = true) (k31 : PySem.W.keepIn K (.ref f31) = true)
    (a32 : PySem.W.nsIn K mainGlobals "_law_category" = some (some (.ref f32))) (l32 : K.lookup f32 = some ⟨oc32, od32, .func (PySem.W.fnOf "_law_category" "_law_category" (defArgs sLc) (defBody sLc) (defScope sLc) .none kV32 dc32 pm32 an32 cd32 ct32), sl32⟩) (c32 : PySem.W.codeIn K cd32 "_law_category" = true) (k32 : PySem.W.keepIn K (.ref f32) = true)
    (a33 : PySem.W.nsIn K mainGlobals "_law_message" = some (some (.ref f33))) (l33 : K.lookup f33 = some ⟨oc33, od33, .func (PySem.W.fnOf "_law_message" "_law_message" (defArgs sMsg) (defBody sMsg) (defScope sMsg) .none kV33 dc33 pm33 an33 cd33 ct33), sl33⟩) (c33 : PySem.W.codeIn K cd33 "_law_message" = true) (k33 : PySem.W.keepIn K (.ref f33) = true)
    (a34 : PySem.W.nsIn K mainGlobals "_law_left" = some (some (.ref f34))) (l34 : K.lookup f34 = some ⟨oc34, od34, .func (PySem.W.fnOf "_law_left" "_law_left" (defArgs sLl) (defBody sLl) (defScope sLl) .none kV34 dc34 pm34 an34 cd34 ct34), sl34⟩) (c34 : PySem.W.codeIn K cd34 "_law_left" = true) (k34 : PySem.W.keepIn K (.ref f34) = true)
    (a35 : PySem.W.nsIn K mainGlobals "law" = some (some (.ref f35))) (l35 : K.lookup f35 = some ⟨oc35, od35, .func (PySem.W.fnOf "law" "law" (defArgs sLaw) (defBody sLaw) (defScope sLaw) .none kV35 dc35 pm35 an35 cd35 ct35), sl35⟩) (c35 : PySem.W.codeIn K cd35 "law" = true) (k35 : PySem.W.keepIn K (.ref f35) = true)
    (aC : PySem.W.nsIn K mainGlobals "Language" = some (some (.ref C)))
    (mk1C : PySem.W.makesIn K C = true)
    (mk4C : PySem.W.keepIn K (.ref C) = true)
    (pgC : PySem.W.plainGet K C Str.empty = true)
    (hdC : PySem.W.hasDictIn K C = true)
    (poC : PySem.W.plainOver K C = true)
    (saC : PySem.W.findIn K (.ref C) "__setattr__" = some (some (.builtin "object.__setattr__")))
    (nC_rules : PySem.W.findIn K (.ref C) "rules" = some none)
    (aS : PySem.W.nsIn K mainGlobals "CategorySets" = some (some (.ref S)))
    (mk1S : PySem.W.makesIn K S = true)
    (mk4S : PySem.W.keepIn K (.ref S) = true)
    (pgS : PySem.W.plainGet K S Str.empty = true)
    (hdS : PySem.W.hasDictIn K S = true)
    (poS : PySem.W.plainOver K S = true)
    (saS : PySem.W.findIn K (.ref S) "__setattr__" = some (some (.builtin "object.__setattr__")))
    (nS_language : PySem.W.findIn K (.ref S) "language" = some none)
    (nS_found : PySem.W.findIn K (.ref S) "found" = some none)
    (nS_rest : PySem.W.findIn K (.ref S) "rest" = some none)
    (nS_moved_on : PySem.W.findIn K (.ref S) "moved_on" = some none)
    (ma1 : PySem.W.findIn K (.ref C) "__init__" = some (some (.ref m1)))
    (ml1 : K.lookup m1 = some ⟨moc1, mod1, .func (PySem.W.fnOf "__init__" "Language.__init__" (defArgs sLi) (defBody sLi) (defScope sLi) .none mkV1 mdc1 mpm1 man1 mcd1 mct1), msl1⟩)
    (mc1 : PySem.W.codeIn K mcd1 "Language.__init__" = true)
    (mf1 : PySem.W.isFn K (.ref m1) = true)
    (mk1 : PySem.W.keepIn K (.ref m1) = true)
    (ma2 : PySem.W.findIn K (.ref S) "__init__" = some (some (.ref m2)))
    (ml2 : K.lookup m2 = some ⟨moc2, mod2, .func (PySem.W.fnOf "__init__" "CategorySets.__init__" (defArgs sGi) (defBody sGi) (defScope sGi) .none mkV2 mdc2 mpm2 man2 mcd2 mct2), msl2⟩)
    (mc2 : PySem.W.codeIn K mcd2 "CategorySets.__init__" = true)
    (mf2 : PySem.W.isFn K (.ref m2) = true)
    (mk2 : PySem.W.keepIn K (.ref m2) = true)
    (ma3 : PySem.W.findIn K (.ref S) "set_of" = some (some (.ref m3)))
    (ml3 : K.lookup m3 = some ⟨moc3, mod3, .func (PySem.W.fnOf "set_of" "CategorySets.set_of" (defArgs sGs) (defBody sGs) (defScope sGs) .none mkV3 mdc3 mpm3 man3 mcd3 mct3), msl3⟩)
    (mc3 : PySem.W.codeIn K mcd3 "CategorySets.set_of" = true)
    (mf3 : PySem.W.isFn K (.ref m3) = true)
    (mk3 : PySem.W.keepIn K (.ref m3) = true)
    (ma4 : PySem.W.findIn K (.ref S) "arguments_of" = some (some (.ref m4)))
    (ml4 : K.lookup m4 = some ⟨moc4, mod4, .func (PySem.W.fnOf "arguments_of" "CategorySets.arguments_of" (defArgs sGa) (defBody sGa) (defScope sGa) .none mkV4 mdc4 mpm4 man4 mcd4 mct4), msl4⟩)
    (mc4 : PySem.W.codeIn K mcd4 "CategorySets.arguments_of" = true)
    (mf4 : PySem.W.isFn K (.ref m4) = true)
    (mk4 : PySem.W.keepIn K (.ref m4) = true)
    (aLc : PySem.W.nsIn K mainGlobals "lcm" = some (some (.builtin "math.lcm")))
    (aN : PySem.W.nsIn K mainGlobals "NONE" = some (some (.ref nN)))
    (xN : K.lookup nN = some ⟨.type "tuple", dN, .seq #[.ref hN, .ref cN] kN, sN⟩)
    (yNh : K.lookup hN = some ⟨.type "tuple", none, .seq #[] khN, shN⟩)
    (yNc : K.lookup cN = some ⟨.type "tuple", none, .seq #[.bool false] kcN, scN⟩)
    (aA : PySem.W.nsIn K mainGlobals "ALL" = some (some (.ref nA)))
    (xA : K.lookup nA = some ⟨.type "tuple", dA, .seq #[.ref hA, .ref cA] kA, sA⟩)
    (yAh : K.lookup hA = some ⟨.type "tuple", none, .seq #[] khA, shA⟩)
    (yAc : K.lookup cA = some ⟨.type "tuple", none, .seq #[.bool true] kcA, scA⟩)
    (cc : PySem.W.codeHdIn K cR tp = true)
    (nl : K.lookup tp = none)
    (hP : h.get? tp = some { cls := .none, data := .fields #[] })
    (z1 : PySem.W.nsIn K mainGlobals "len" = some none) (z2 : PySem.W.nsIn K mainGlobals "list" = some none) (z3 : PySem.W.nsIn K mainGlobals "range" = some none) (z4 : PySem.W.nsIn K mainGlobals "int" = some none) (z5 : PySem.W.nsIn K mainGlobals "tuple" = some none) (z6 : PySem.W.nsIn K mainGlobals "max" = some none) (z7 : PySem.W.nsIn K mainGlobals "min" = some none) (z8 : PySem.W.nsIn K mainGlobals "zip" = some none) (z9 : PySem.W.nsIn K mainGlobals "sorted" = some none) (z10 : PySem.W.nsIn K mainGlobals "repr" = some none) (z11 : PySem.W.nsIn K mainGlobals "isinstance" = some none) (z12 : PySem.W.nsIn K mainGlobals "enumerate" = some none) :
    ∃ (fd : FuncData) (cR tp : Addr) (sp : Sp), h.get? tp = some { cls := .none, data := .fields #[] } ∧ K.lookup tp = none ∧ PySem.W.CodeHd h cR tp ∧ (∀ (s : Shared) (u : Value), BindsTo s fd ⟨[u], []⟩ [("script", u)]) ∧
      (∀ (H : Hp) (a : Addr) (ns : List Int), ns.length ≤ 63 → H tp = some (.tbl #[]) → SqL K H a (ns.map V.int) → sp [.ref a] H (fun v _ => v = .bl true) fun _ _ _ => False) ∧
      ∀ base : Heap, K.In base → base.Ns mainGlobals mg → LamX.TabB base mg cR tp → Gy.RunAt PySem.callerA l.prog w K mg base CX0 11 fa fd ["script"] sp := by
  have e := hfa.symm.trans (PySem.W.mg_of X G a35)
  cases e
  have F1 := fun_mk (st := sIs) l1 c1 k1
  have b1 := F1.binds (ps := ["node"]) fun _ _ _ _ _ _ us hl => match us, hl with | [_], _ => rfl
  have g1 := PySem.W.mg_of X G a1
  have F2 := fun_mk (st := sCases) l2 c2 k2
  have b2 := F2.binds (ps := ["node"]) fun _ _ _ _ _ _ us hl => match us, hl with | [_], _ => rfl
  have g2 := PySem.W.mg_of X G a2
  have F3 := fun_mk (st := sOther) l3 c3 k3
  have b3 := F3.binds (ps := ["node"]) fun _ _ _ _ _ _ us hl => match us, hl with | [_], _ => rfl
  have g3 := PySem.W.mg_of X G a3
  have F4 := fun_mk (st := sInner) l4 c4 k4
  have b4 := F4.binds (ps := ["node"]) fun _ _ _ _ _ _ us hl => match us, hl with | [_], _ => rfl
  have g4 := PySem.W.mg_of X G a4
  have F5 := fun_mk (st := sCd) l5 c5 k5
  have b5 := F5.binds (ps := ["condition"]) fun _ _ _ _ _ _ us hl => match us, hl with | [_], _ => rfl
  have g5 := PySem.W.mg_of X G a5
  have F6 := fun_mk (st := sPf) l6 c6 k6
  have b6 := F6.binds (ps := ["number"]) fun _ _ _ _ _ _ us hl => match us, hl with | [_], _ => rfl
  have g6 := PySem.W.mg_of X G a6
  have F7 := fun_mk (st := sSc) l7 c7 k7
  have b7 := F7.binds (ps := ["cycle"]) fun _ _ _ _ _ _ us hl => match us, hl with | [_], _ => rfl
  have g7 := PySem.W.mg_of X G a7
  have F8 := fun_mk (st := sTb) l8 c8 k8
  have b8 := F8.binds (ps := ["head", "cycle", "many"]) fun _ _ _ _ _ _ us hl => match us, hl with | [_, _, _], _ => rfl
  have g8 := PySem.W.mg_of X G a8
  have F9 := fun_mk (st := sSe) l9 c9 k9
  have b9 := F9.binds (ps := ["head", "cycle"]) fun _ _ _ _ _ _ us hl => match us, hl with | [_, _], _ => rfl
  have g9 := PySem.W.mg_of X G a9
  have F10 := fun_mk (st := sSt) l10 c10 k10
  have b10 := F10.binds (ps := ["one", "head_size", "cycle_size"]) fun _ _ _ _ _ _ us hl => match us, hl with | [_, _, _], _ => rfl
  have g10 := PySem.W.mg_of X G a10
  have F11 := fun_mk (st := sEm) l11 c11 k11
  have b11 := F11.binds (ps := ["one"]) fun _ _ _ _ _ _ us hl => match us, hl with | [_], _ => rfl
  have g11 := PySem.W.mg_of X G a11
  have F12 := fun_mk (st := sWi) l12 c12 k12
  have b12 := F12.binds (ps := ["one", "other"]) fun _ _ _ _ _ _ us hl => match us, hl with | [_, _], _ => rfl
  have g12 := PySem.W.mg_of X G a12
  have F13 := fun_mk (st := sCp) l13 c13 k13
  have b13 := F13.binds (ps := ["one"]) fun _ _ _ _ _ _ us hl => match us, hl with | [_], _ => rfl
  have g13 := PySem.W.mg_of X G a13
  have F14 := fun_mk (st := sCm) l14 c14 k14
  have b14 := F14.binds (ps := ["one", "other"]) fun _ _ _ _ _ _ us hl => match us, hl with | [_, _], _ => rfl
  have g14 := PySem.W.mg_of X G a14
  have F15 := fun_mk (st := sUn) l15 c15 k15
  have b15 := F15.binds (ps := ["one", "other"]) fun _ _ _ _ _ _ us hl => match us, hl with | [_, _], _ => rfl
  have g15 := PySem.W.mg_of X G a15
  have F16 := fun_mk (st := sDf) l16 c16 k16
  have b16 := F16.binds (ps := ["one", "other"]) fun _ _ _ _ _ _ us hl => match us, hl with | [_, _], _ => rfl
  have g16 := PySem.W.mg_of X G a16
  have F17 := fun_mk (st := sMv) l17 c17 k17
  have b17 := F17.binds (ps := ["one", "offset"]) fun _ _ _ _ _ _ us hl => match us, hl with | [_, _], _ => rfl
  have g17 := PySem.W.mg_of X G a17
  have F18 := fun_mk (st := sRe) l18 c18 k18
  have b18 := F18.binds (ps := ["relation"]) fun _ _ _ _ _ _ us hl => match us, hl with | [_], _ => rfl
  have g18 := PySem.W.mg_of X G a18
  have F19 := fun_mk (st := sRw) l19 c19 k19
  have b19 := F19.binds (ps := ["row"]) fun _ _ _ _ _ _ us hl => match us, hl with | [_], _ => rfl
  have g19 := PySem.W.mg_of X G a19
  have F20 := fun_mk (st := sCo) l20 c20 k20
  have b20 := F20.binds (ps := ["condition"]) fun _ _ _ _ _ _ us hl => match us, hl with | [_], _ => rfl
  have g20 := PySem.W.mg_of X G a20
  have F21 := fun_mk (st := sKo) l21 c21 k21
  have b21 := F21.binds (ps := ["node"]) fun _ _ _ _ _ _ us hl => match us, hl with | [_], _ => rfl
  have g21 := PySem.W.mg_of X G a21
  have F22 := fun_mk (st := sNs) l22 c22 k22
  have b22 := F22.binds (ps := ["numbers"]) fun _ _ _ _ _ _ us hl => match us, hl with | [_], _ => rfl
  have g22 := PySem.W.mg_of X G a22
  have F23 := fun_mk (st := sCw) l23 c23 k23
  have b23 := F23.binds (ps := ["message"]) fun _ _ _ _ _ _ us hl => match us, hl with | [_], _ => rfl
  have g23 := PySem.W.mg_of X G a23
  have F24 := fun_mk (st := sLo) l24 c24 k24
  have b24 := F24.binds (ps := ["node", "category_sets"]) fun _ _ _ _ _ _ us hl => match us, hl with | [_, _], _ => rfl
  have g24 := PySem.W.mg_of X G a24
  have F25 := fun_mk (st := sLk) l25 c25 k25
  have b25 := F25.binds (ps := ["message", "language"]) fun _ _ _ _ _ _ us hl => match us, hl with | [_, _], _ => rfl
  have g25 := PySem.W.mg_of X G a25
  have F26 := fun_mk (st := sCell) l26 c26 k26
  have b26 := F26.binds (ps := ["script", "k"]) fun _ _ _ _ _ _ us hl => match us, hl with | [_, _], _ => rfl
  have g26 := PySem.W.mg_of X G a26
  have F27 := fun_mk (st := sRow) l27 c27 k27
  have b27 := F27.binds (ps := ["cell", "k", "many"]) fun _ _ _ _ _ _ us hl => match us, hl with | [_, _, _], _ => rfl
  have g27 := PySem.W.mg_of X G a27
  have F28 := fun_mk (st := sBox) l28 c28 k28
  have b28 := F28.binds (ps := ["script", "first", "last"]) fun _ _ _ _ _ _ us hl => match us, hl with | [_, _, _], _ => rfl
  have g28 := PySem.W.mg_of X G a28
  have F29 := fun_mk (st := sDraw) l29 c29 k29
  have b29 := F29.binds (ps := ["box", "many"]) fun _ _ _ _ _ _ us hl => match us, hl with | [_, _], _ => rfl
  have g29 := PySem.W.mg_of X G a29
  have F30 := fun_mk (st := sSame) l30 c30 k30
  have b30 := F30.binds (ps := ["one", "other"]) fun _ _ _ _ _ _ us hl => match us, hl with | [_, _], _ => rfl
  have g30 := PySem.W.mg_of X G a30
  have F31 := fun_mk (st := sLg) l31 c31 k31
  have b31 := F31.binds (ps := ["box"]) fun _ _ _ _ _ _ us hl => match us, hl with | [_], _ => rfl
  have g31 := PySem.W.mg_of X G a31
  have F32 := fun_mk (st := sLc) l32 c32 k32
  have b32 := F32.binds (ps := ["language", "number"]) fun _ _ _ _ _ _ us hl => match us, hl with | [_, _], _ => rfl
  have g32 := PySem.W.mg_of X G a32
  have F33 := fun_mk (st := sMsg) l33 c33 k33
  have b33 := F33.binds (ps := ["box", "depth", "inside", "numbers"]) fun _ _ _ _ _ _ us hl => match us, hl with | [_, _, _, _], _ => rfl
  have g33 := PySem.W.mg_of X G a33
  have F34 := fun_mk (st := sLl) l34 c34 k34
  have b34 := F34.binds (ps := ["message", "language", "path"]) fun _ _ _ _ _ _ us hl => match us, hl with | [_, _, _], _ => rfl
  have g34 := PySem.W.mg_of X G a34
  have F35 := fun_mk (st := sLaw) l35 c35 k35
  have b35 := F35.binds (ps := ["script"]) fun _ _ _ _ _ _ us hl => match us, hl with | [_], _ => rfl
  have g35 := PySem.W.mg_of X G a35
  have FR : FunC K "row_set" "row_set" sRw f19 _ cR := ⟨⟨_, _, _, _, _, _, _, _, rfl, l19, c19⟩, k19⟩
  have FM1 := fun_mk (st := sLi) ml1 mc1 mk1
  have bM1 := FM1.binds (ps := ["self", "rules"]) fun _ _ _ _ _ _ us hl => match us, hl with | [_, _], _ => rfl
  have M1 : Meth K C "__init__" m1 := ⟨ma1, mf1, mk1⟩
  have FM2 := fun_mk (st := sGi) ml2 mc2 mk2
  have bM2 := FM2.binds (ps := ["self", "language"]) fun _ _ _ _ _ _ us hl => match us, hl with | [_, _], _ => rfl
  have M2 : Meth K S "__init__" m2 := ⟨ma2, mf2, mk2⟩
  have FM3 := fun_mk (st := sGs) ml3 mc3 mk3
  have bM3 := FM3.binds (ps := ["self", "category"]) fun _ _ _ _ _ _ us hl => match us, hl with | [_, _], _ => rfl
  have M3 : Meth K S "set_of" m3 := ⟨ma3, mf3, mk3⟩
  have FM4 := fun_mk (st := sGa) ml4 mc4 mk4
  have bM4 := FM4.binds (ps := ["self", "category", "offset"]) fun _ _ _ _ _ _ us hl => match us, hl with | [_, _, _], _ => rfl
  have M4 : Meth K S "arguments_of" m4 := ⟨ma4, mf4, mk4⟩
  have y1 := PySem.W.mg_none_of X G z1
  have y2 := PySem.W.mg_none_of X G z2
  have y3 := PySem.W.mg_none_of X G z3
  have y4 := PySem.W.mg_none_of X G z4
  have y5 := PySem.W.mg_none_of X G z5
  have y6 := PySem.W.mg_none_of X G z6
  have y7 := PySem.W.mg_none_of X G z7
  have y8 := PySem.W.mg_none_of X G z8
  have y9 := PySem.W.mg_none_of X G z9
  have y10 := PySem.W.mg_none_of X G z10
  have y11 := PySem.W.mg_none_of X G z11
  have y12 := PySem.W.mg_none_of X G z12
  have gC := PySem.W.mg_of X G aC
  have gS := PySem.W.mg_of X G aS
  have Lc : LC K C := ⟨⟨pgC, hdC, poC, saC⟩, nC_rules⟩
  have Sc : CGC K S := ⟨⟨pgS, hdS, poS, saS⟩, nS_language, nS_found, nS_rest, nS_moved_on⟩
  have MC : Mk K C m1 := ⟨mk1C, ma1, mf1, mk4C⟩
  have MS : Mk K S m2 := ⟨mk1S, ma2, mf2, mk4S⟩
  have gLm := PySem.W.mg_of X G aLc
  have NN := kp_of (PySem.W.mg_of X G aN) xN yNh yNc
  have NA := kp_of (PySem.W.mg_of X G aA) xA yAh yAc
  refine ⟨PySem.W.fnOf "law" "law" (defArgs sLaw) (defBody sLaw) (defScope sLaw) .none kV35 dc35 pm35 an35 cd35 ct35, cR, tp, spLaw K tp, hP, nl, PySem.W.codeHd_of_K X cc, fun s v => .of_eq rfl, fun H a ns _ hH hS => ⟨a, ns, rfl, hS, hH, fun _ => rfl⟩, fun base _ _ TB => ?_⟩
  have gPf := ok_pf (P := l.prog) (w := w) (mg := mg) (base := base) F6
  have gSc := ok_sc F7 gPf b6 k6 g6 y1
  have gTb := ok_tb (P := l.prog) (w := w) (mg := mg) (base := base) F8 y1
  have gSe := ok_se F9 gSc b7 k7 g7 gTb b8 k8 g8 y1 y5
  have gSt := ok_st (P := l.prog) (w := w) (mg := mg) (base := base) F10 y1
  have gCp := ok_cp (P := l.prog) (w := w) (mg := mg) (base := base) F13 y5
  have gCm := ok_cm F14 gSe b9 k9 g9 gSt b10 k10 g10 y1 y6 y8 gLm
  have gUn := ok_un F15 gCm b14 k14 g14 gCp b13 k13 g13
  have gDf := ok_df F16 gCm b14 k14 g14 gCp b13 k13 g13
  have gEm := ok_em (P := l.prog) (w := w) (mg := mg) (base := base) F11 NN
  have gWi := ok_wi F12 gEm b11 k11 g11 gDf b16 k16 g16
  have gMv := ok_mv F17 gSe b9 k9 g9
  have gRe := ok_re F18 gSe b9 k9 g9 y6 y7
  have gRw := ok_rw FR TB gCm b14 k14 g14 gRe b18 k18 g18 NA y9
  have gCo := ok_co F20 gUn b15 k15 g15 gRw b19 k19 g19 NN
  have gIs := ok_is (P := l.prog) (w := w) (mg := mg) (base := base) F1
  have gCa := ok_cases (P := l.prog) (w := w) (mg := mg) (base := base) F2 y2
  have gOo := ok_other (P := l.prog) (w := w) (mg := mg) (base := base) F3
  have gIm := ok_inner F4 gIs b1 k1 g1 gCa b2 k2 g2 gOo b3 k3 g3
  have gKo := ok_ko F21 gCa b2 k2 g2
  have gNs := ok_ns F22 gSe b9 k9 g9 y6
  have gCw := ok_cw F23 gIs b1 k1 g1 gKo b21 k21 g21 gIm b4 k4 g4 y12 y8 y11 y2
  have gGi := ok_gi (P := l.prog) (w := w) (mg := mg) (base := base) FM2 Sc NA
  have gGs := ok_gs FM3 Sc Lc gCm b14 k14 g14 gDf b16 k16 g16 gCo b20 k20 g20 NN y1
  have gGa := ok_ga FM4 Sc gGs bM3 M3 gMv b17 k17 g17
  have gLo := ok_lo F24 Sc Lc gNs b22 k22 g22 gCa b2 k2 g2 gKo b21 k21 g21 gWi b12 k12 g12 gGa bM4 M4 y11 y4
  have gLk := ok_lk F25 MS gS gGi bM2 gCw b23 k23 g23 gLo b24 k24 g24
  have gCd := ok_cd (P := l.prog) (w := w) (mg := mg) (base := base) F5 y2
  have gLi := ok_li FM1 Lc gCd b5 k5 g5
  have gCe := ok_cell (P := l.prog) (w := w) (mg := mg) (base := base) F26 y1
  have gRo := ok_row (P := l.prog) (w := w) (mg := mg) (base := base) F27 y3 y4 y1
  have gBo := ok_box (n := 45) (by decide) F28 gCe b26 k26 g26 gRo b27 k27 g27 y3
  have gDr := ok_draw (P := l.prog) (w := w) (mg := mg) (base := base) F29 y1 y4
  have gSa := ok_same (P := l.prog) (w := w) (mg := mg) (base := base) F30 y10
  have gLg := ok_lg F31 gDr b29 k29 g29 MC gC gLi bM1 y3 y4
  have gLc := ok_lc (P := l.prog) (w := w) (mg := mg) (base := base) F32 Lc y4
  have gM := both gDr b29 k29 g29 F33 b33 g33 y3 y1 y4
  have gLl := all_ll F34 b34 g34 Lc gLc b32 k32 g32 y3 y1 y2 2
  exact (Gy.run_of (ok_law F35 gBo b28 k28 g28 gLg b31 k31 g31 gM b33 k33 g33 gSa b30 k30 g30 gLk b25 k25 g25 gLl b34 k34 g34 y3))
end Mw
open PySem PySem.W PyProof.Rows
set_option maxRecDepth 100000 in
set_option maxHeartbeats 0 in
theorem PySem.Challenge.cw_messageways_k43_categories_left_out_holds : PySem.Challenge.rw_messageways_k43_categories_left_out.Holds := by
  w_on; o_law; k_head; (case hw => w_witness2)
  k_fill
  refine Gy.walk_tab (l := PySem.Challenge.rw_messageways_k43_categories_left_out) (n := 63) (k := 11) (x := "script") rfl (by decide) rfl ⟨rfl, by decide, by decide⟩ (fun w h Y => PySem.W.km_in_of Y) ?F
  case F =>
    intro w mg fa h Y KX G hmg
    have hT8 := PySem.W.km_tabs_of Y
    refine' Mw.all_mk KX G hmg ?a1 ?l1 ?c1 ?k1 ?a2 ?l2 ?c2 ?k2 ?a3 ?l3 ?c3 ?k3 ?a4 ?l4 ?c4 ?k4 ?a5 ?l5 ?c5 ?k5 ?a6 ?l6 ?c6 ?k6 ?a7 ?l7 ?c7 ?k7 ?a8 ?l8 ?c8 ?k8 ?a9 ?l9 ?c9 ?k9 ?a10 ?l10 ?c10 ?k10 ?a11 ?l11 ?c11 ?k11 ?a12 ?l12 ?c12 ?k12 ?a13 ?l13 ?c13 ?k13 ?a14 ?l14 ?c14 ?k14 ?a15 ?l15 ?c15 ?k15 ?a16 ?l16 ?c16 ?k16 ?a17 ?l17 ?c17 ?k17 ?a18 ?l18 ?c18 ?k18 ?a19 ?l19 ?c19 ?k19 ?a20 ?l20 ?c20 ?k20 ?a21 ?l21 ?c21 ?k21 ?a22 ?l22 ?c22 ?k22 ?a23 ?l23 ?c23 ?k23 ?a24 ?l24 ?c24 ?k24 ?a25 ?l25 ?c25 ?k25 ?a26 ?l26 ?c26 ?k26 ?a27 ?l27 ?c27 ?k27 ?a28 ?l28 ?c28 ?k28 ?a29 ?l29 ?c29 ?k29 ?a30 ?l30 ?c30 ?k30 ?a31 ?l31 ?c31 ?k31 ?a32 ?l32 ?c32 ?k32 ?a33 ?l33 ?c33 ?k33 ?a34 ?l34 ?c34 ?k34 ?a35 ?l35 ?c35 ?k35 ?aC ?mk1C ?mk4C ?pgC ?hdC ?poC ?saC ?nC_rules ?aS ?mk1S ?mk4S ?pgS ?hdS ?poS ?saS ?nS_language ?nS_found ?nS_rest ?nS_moved_on ?ma1 ?ml1 ?mc1 ?mf1 ?mk1 ?ma2 ?ml2 ?mc2 ?mf2 ?mk2 ?ma3 ?ml3 ?mc3 ?mf3 ?mk3 ?ma4 ?ml4 ?mc4 ?mf4 ?mk4 ?aLc ?aN ?xN ?yNh ?yNc ?aA ?xA ?yAh ?yAc ?cc ?nl ?hP ?z1 ?z2 ?z3 ?z4 ?z5 ?z6 ?z7 ?z8 ?z9 ?z10 ?z11 ?z12
    (case a1 => k_is); (case l1 => k_is); (case c1 => k_is); (case k1 => k_is)
    (case a2 => k_is); (case l2 => k_is); (case c2 => k_is); (case k2 => k_is)
    (case a3 => k_is); (case l3 => k_is); (case c3 => k_is); (case k3 => k_is)
    (case a4 => k_is); (case l4 => k_is); (case c4 => k_is); (case k4 => k_is)
    (case a5 => k_is); (case l5 => k_is); (case c5 => k_is); (case k5 => k_is)
    (case a6 => k_is); (case l6 => k_is); (case c6 => k_is); (case k6 => k_is)
    (case a7 => k_is); (case l7 => k_is); (case c7 => k_is); (case k7 => k_is)
    (case a8 => k_is); (case l8 => k_is); (case c8 => k_is); (case k8 => k_is)
    (case a9 => k_is); (case l9 => k_is); (case c9 => k_is); (case k9 => k_is)
    (case a10 => k_is); (case l10 => k_is); (case c10 => k_is); (case k10 => k_is)
    (case a11 => k_is); (case l11 => k_is); (case c11 => k_is); (case k11 => k_is)
    (case a12 => k_is); (case l12 => k_is); (case c12 => k_is); (case k12 => k_is)
    (case a13 => k_is); (case l13 => k_is); (case c13 => k_is); (case k13 => k_is)
    (case a14 => k_is); (case l14 => k_is); (case c14 => k_is); (case k14 => k_is)
    (case a15 => k_is); (case l15 => k_is); (case c15 => k_is); (case k15 => k_is)
    (case a16 => k_is); (case l16 => k_is); (case c16 => k_is); (case k16 => k_is)
    (case a17 => k_is); (case l17 => k_is); (case c17 => k_is); (case k17 => k_is)
    (case a18 => k_is); (case l18 => k_is); (case c18 => k_is); (case k18 => k_is)
    (case a19 => k_is); (case l19 => k_is); (case c19 => k_is); (case k19 => k_is)
    (case a20 => k_is); (case l20 => k_is); (case c20 => k_is); (case k20 => k_is)
    (case a21 => k_is); (case l21 => k_is); (case c21 => k_is); (case k21 => k_is)
    (case a22 => k_is); (case l22 => k_is); (case c22 => k_is); (case k22 => k_is)
    (case a23 => k_is); (case l23 => k_is); (case c23 => k_is); (case k23 => k_is)
    (case a24 => k_is); (case l24 => k_is); (case c24 => k_is); (case k24 => k_is)
    (case a25 => k_is); (case l25 => k_is); (case c25 => k_is); (case k25 => k_is)
    (case a26 => k_is); (case l26 => k_is); (case c26 => k_is); (case k26 => k_is)
    (case a27 => k_is); (case l27 => k_is); (case c27 => k_is); (case k27 => k_is)
    (case a28 => k_is); (case l28 => k_is); (case c28 => k_is); (case k28 => k_is)
    (case a29 => k_is); (case l29 => k_is); (case c29 => k_is); (case k29 => k_is)
    (case a30 => k_is); (case l30 => k_is); (case c30 => k_is); (case k30 => k_is)
    (case a31 => k_is); (case l31 => k_is); (case c31 => k_is); (case k31 => k_is)
    (case a32 => k_is); (case l32 => k_is); (case c32 => k_is); (case k32 => k_is)
    (case a33 => k_is); (case l33 => k_is); (case c33 => k_is); (case k33 => k_is)
    (case a34 => k_is); (case l34 => k_is); (case c34 => k_is); (case k34 => k_is)
    (case a35 => k_is); (case l35 => k_is); (case c35 => k_is); (case k35 => k_is)
    (case hP => exact hT8 _ List.mem_cons_self)
    (case aC => k_is)
    (case mk1C => k_is)
    (case mk4C => k_is)
    (case pgC => k_is)
    (case hdC => k_is)
    (case poC => k_is)
    (case saC => k_is)
    (case nC_rules => k_is)
    (case aS => k_is)
    (case mk1S => k_is)
    (case mk4S => k_is)
    (case pgS => k_is)
    (case hdS => k_is)
    (case poS => k_is)
    (case saS => k_is)
    (case nS_language => k_is)
    (case nS_found => k_is)
    (case nS_rest => k_is)
    (case nS_moved_on => k_is)
    (case ma1 => k_is)
    (case ml1 => k_is)
    (case mc1 => k_is)
    (case mf1 => k_is)
    (case mk1 => k_is)
    (case ma2 => k_is)
    (case ml2 => k_is)
    (case mc2 => k_is)
    (case mf2 => k_is)
    (case mk2 => k_is)
    (case ma3 => k_is)
    (case ml3 => k_is)
    (case mc3 => k_is)
    (case mf3 => k_is)
    (case mk3 => k_is)
    (case ma4 => k_is)
    (case ml4 => k_is)
    (case mc4 => k_is)
    (case mf4 => k_is)
    (case mk4 => k_is)
    (case aLc => k_is)
    (case aN => k_is)
    (case xN => k_is)
    (case yNh => k_is)
    (case yNc => k_is)
    (case aA => k_is)
    (case xA => k_is)
    (case yAh => k_is)
    (case yAc => k_is)
    (case cc => first | kernel_rfl | decide +kernel | k_is)
    (case nl => first | kernel_rfl | decide +kernel | k_is)
    (case z1 => k_is)
    (case z2 => k_is)
    (case z3 => k_is)
    (case z4 => k_is)
    (case z5 => k_is)
    (case z6 => k_is)
    (case z7 => k_is)
    (case z8 => k_is)
    (case z9 => k_is)
    (case z10 => k_is)
    (case z11 => k_is)
    (case z12 => k_is)

