import PyProof.Rows.All
import Wide.All
import OpenK.AllK
import Wide.FinOn
import Open.SpecLaws
import KE.OsGo
import HandS.ForSpec
import HandS.ForMost
import HandS.More
import HandS.CallLocal
import HandS.Comp
import HandS.Iter
import PySem.Challenge.RW_cardringsdesk_s01_answers
set_option Elab.async false
set_option linter.all false
set_option maxRecDepth 100000
set_option maxHeartbeats 8000000
/-! Two rules that the layer lacks: an item of a written dict with whole numbers for keys; a call of what an expression gives. -/
namespace Rg
open PySem PySem.Spec PyProof.Rows L2
/-- the entries' keys are whole numbers, each under its own hash -/
def IntKeys : List DictEntry → Prop
  | [] => True
  | e :: r => (∃ i t, e.key = .int i t ∧ e.hash = hashInt i) ∧ IntKeys r
theorem IntKeys.all : ∀ {l : List DictEntry}, IntKeys l → ∀ e ∈ l, ∃ i t, e.key = .int i t ∧ e.hash = hashInt i
  | _ :: _, ⟨h, _⟩, _, .head _ => h
  | _ :: _, ⟨_, r⟩, _, .tail _ m => r.all _ m
/-- the written dict at a has v under i -/
def KDI (K : PySem.W.Frag) (a : Addr) (i : Int) (v : V) : Prop :=
  ∃ (es : Array DictEntry) (n : Nat) (u : Value), K.lookup a = some ⟨.type "dict", none, .dict es n, #[]⟩ ∧ IntKeys es.toList ∧ findBy Value.isInt es i = some u ∧ RelV v u
theorem mapOf_KI {prog : Program} {w : World} {K : PySem.W.Frag} {h : Heap} {a : Addr} {es : Array DictEntry} {n : Nat} (X : K.In h) (hl : K.lookup a = some ⟨.type "dict", none, .dict es n, #[]⟩) (hk : IntKeys es.toList) :
    h.MapOf (intKind prog w) a (fun k => findBy Value.isInt es k) :=
  ⟨_, es, n, X _ _ hl, ⟨rfl, rfl, rfl⟩, rfl, fun e he => by
    obtain ⟨i, t, e1, e2⟩ := hk.all e (Array.mem_toList_iff.mpr he)
    exact ⟨i, by rw [e1]; simp [intKind, Value.isInt], e2⟩, fun _ => rfl⟩
def rIxKI (K : PySem.W.Frag) : R2 := fun x y H Q => ∃ p i v, x = .ref p ∧ y = .int i ∧ KDI K p i v ∧ Q v H
section
variable {X : Cx}
theorem ix_kdi : IxR X (rIxKI X.K) := by
  intro value slice pins s σ H x y v u Q I rx ry h hs
  obtain ⟨p, i, r, rfl, rfl, ⟨es, n, u0, hl, hk, e, ru⟩, q⟩ := h
  obtain rfl : v = Value.ref p := rx
  obtain ⟨t, rfl⟩ := ry
  have hm := mapOf_KI (prog := X.prog) (w := X.w) I.kIn hl hk
  exact tail_any hm.typeIs slot_dict_getitem.lookup (wpAny_getItem_of (k := i) (by simp [intKind, Value.isInt]) hm e ⟨r, H, I.tok _, ru, q⟩) hs
end
/-- the callee is what an expression gives: a def that keeps a promise -/
def tCallH (P : Program) (w : World) (K : PySem.W.Frag) (mg : Str → Option Value) (base : Heap) (k : Nat) (tf : TE) (t : TA) : TE := fun σ H Q => tf σ H fun x H1 => ∃ f sp, x = .ref f ∧ Held P w K mg base k f sp ∧ t σ H1 fun vs H2 => sp vs H2 Q (fun _ _ _ => False)
theorem arm_call_sub (a b : Expr) (p : Pos) (args : List Expr) (keywords : List Keyword) (pos : Pos) (env : Env) : eval (.Call (.Subscript a b p) args keywords pos) env = (do
    callWith pos (← eval (.Subscript a b p) env) [] (backTo pos (starEach args env)) (backToKw pos (keywordEach keywords env))) := rfl
theorem pe_callH {X : Cx} {k : Nat} {a b : Expr} {p pos : Pos} {e : Expr} {es : List Expr} {tf : TE} {t : TA} (hr : Room k X.A)
    (hf : PE X (.Subscript a b p) tf) (ha : PA X (e :: es) t)
    (he : starEach (e :: es) X.env = (false, eval e X.env) :: starEach es X.env := by rfl) (hpl : (backTo pos (starEach es X.env)).any (·.1) = false := by rfl) :
    PE X (.Call (.Subscript a b p) (e :: es) [] pos) (tCallH X.prog X.w X.K X.mg X.base k tf t) := by
  refine ⟨fun pins s σ H Q I h => ?_⟩
  rw [arm_call_sub]
  refine wpAny_bind (thn (hf.run pins s σ H _ I h) fun u s1 ⟨v, H1, I1, r1, f, sp, ev, hS, ht⟩ => ?_)
  subst ev
  obtain rfl : u = Value.ref f := r1
  obtain ⟨fd, ps, F, hk, hb⟩ := hS.ex
  refine PySem.W.callWith_K (h₀ := X.base) I.ok.mod.kin hk (thn (ha.run pos pins s1 σ _ _ I1 ht) fun us s2 ⟨vs, H2, I2, r, q⟩ => ⟨I2.kIn, ?_⟩) he hpl
  exact run_fn (dvs := []) F hr hb .nil (fun _ _ _ _ _ _ _ z => z.elim) I2 r (by rw [List.append_nil]; exact q)
end Rg

/-! What always holds of the document's card: sizes and bounds, kept by every call. Plain Lean over the specification. -/
namespace Rg
open Sj50
structure RingOK (size : Nat) (r : Ring) : Prop where
  used : r.used ≤ size
  desc : ∀ d, d ∈ r.posted ∨ d ∈ r.seen ∨ d ∈ r.done → d.buf < 64 ∧ d.len ≤ 256
structure WF0 (c : Card) : Prop where
  size : c.size ≤ 64
  bufs : c.bufs.length = 64
  buf : ∀ b ∈ c.bufs, b.length = 256
  at_ : c.at_.length = 64
  rings : c.rings.length = 4
  part : c.part.length = 4
  partLen : ∀ p ∈ c.part, p.length ≤ 4096
  turn : c.turn < 4
  out : c.out.length ≤ 16
  outLen : ∀ f ∈ c.out, f.length ≤ 4096
  ring : ∀ r ∈ c.rings, RingOK c.size r
  lent : RingOK c.size c.lent
  counts : c.counts.length = 3
theorem empty_ok (n : Nat) : RingOK n empty := ⟨Nat.zero_le _, fun d h => by rcases h with h | h | h <;> cases h⟩
theorem wf0_made {k m l : Nat} (hk : k ≤ 6) : WF0 (made k m l) where
  size := by
    show 2 ^ k ≤ 64
    exact Nat.pow_le_pow_right (by decide) hk
  bufs := List.length_replicate
  buf := fun b h => by
    have := List.eq_of_mem_replicate h
    rw [this, List.length_replicate]
    rfl
  at_ := List.length_replicate
  rings := List.length_replicate
  part := List.length_replicate
  partLen := fun p h => by
    have := List.eq_of_mem_replicate h
    rw [this]
    exact Nat.zero_le _
  turn := by show 0 < 4; decide
  out := Nat.zero_le _
  outLen := fun f h => nomatch h
  ring := fun r h => by
    have := List.eq_of_mem_replicate h
    rw [this]
    exact empty_ok _
  lent := empty_ok _
  counts := List.length_replicate
theorem over_len {l b : Bytes} (hl : l.length = 256) (hb : b.length ≤ 256) : (over l b).length = 256 := by
  unfold over
  rw [List.length_append, List.length_drop, hl]
  omega
theorem mem_set_or {α : Type} : ∀ {l : List α} {i : Nat} {x y : α}, y ∈ l.set i x → y = x ∨ y ∈ l := fun {l i x y} h => by
  rcases List.mem_or_eq_of_mem_set h with h | h
  · exact .inr h
  · exact .inl h
theorem getD_mem {α : Type} {l : List α} {i : Nat} {z : α} (h : i < l.length) : l.getD i z ∈ l := by
  rw [List.getD_eq_getElem?_getD, List.getElem?_eq_getElem h]
  exact List.getElem_mem h
theorem WF0.ringOK {c : Card} (w : WF0 c) (k : Nat) : RingOK c.size (c.ring k) := by
  unfold Card.ring
  by_cases h : k < c.rings.length
  · exact w.ring _ (getD_mem h)
  · rw [List.getD_eq_getElem?_getD, List.getElem?_eq_none (by omega)]
    exact empty_ok _
theorem WF0.bufLen {c : Card} (w : WF0 c) {b : Nat} (h : b < 64) : (c.buf b).length = 256 := by
  unfold Card.buf
  exact w.buf _ (getD_mem (by rw [w.bufs]; exact h))
theorem WF0.partAt {c : Card} (w : WF0 c) (k : Nat) : (c.part.getD k []).length ≤ 4096 := by
  by_cases h : k < c.part.length
  · exact w.partLen _ (getD_mem h)
  · rw [List.getD_eq_getElem?_getD, List.getElem?_eq_none (by omega)]
    exact Nat.zero_le _
theorem counted_len {l : List Nat} {k n : Nat} : (counted l k n).length = l.length := by
  unfold counted
  rw [List.length_set]
theorem wf0_fin {c : Card} {n : Nat} (w : WF0 c) : WF0 (c.finished n) := ⟨w.size, w.bufs, w.buf, w.at_, w.rings, w.part, w.partLen, w.turn, w.out, w.outLen, w.ring, w.lent, w.counts⟩
/-- a ring put anew -/
theorem wf0_ring {c : Card} {k : Nat} {r : Ring} (w : WF0 c) (hr : RingOK c.size r) : WF0 { c with rings := c.rings.set k r } :=
  ⟨w.size, w.bufs, w.buf, w.at_, by show (c.rings.set k r).length = 4; rw [List.length_set]; exact w.rings, w.part, w.partLen, w.turn, w.out, w.outLen, fun x h => by
    rcases mem_set_or h with h | h
    · rw [h]; exact hr
    · exact w.ring _ h, w.lent, w.counts⟩
theorem wf0_at {c : Card} {a : List Nat} (w : WF0 c) (h : a.length = 64) : WF0 { c with at_ := a } := ⟨w.size, w.bufs, w.buf, h, w.rings, w.part, w.partLen, w.turn, w.out, w.outLen, w.ring, w.lent, w.counts⟩
theorem next_lt {c : Card} {k : Nat} (h : c.next = some k) : k < 4 ∧ (c.ring k).seen ≠ [] := by
  unfold Card.next at h
  have h1 := List.mem_of_find?_eq_some h
  have h2 := List.find?_some h
  obtain ⟨i, _, e⟩ := List.mem_map.mp h1
  refine ⟨by rw [← e]; exact Nat.mod_lt _ (by decide), fun z => ?_⟩
  rw [z] at h2
  exact Bool.false_ne_true h2
theorem wf0_work {c u : Card} (w : WF0 c) (h : c.work = some u) : WF0 u := by
  unfold Card.work at h
  cases e : c.next with
  | none => rw [e] at h; cases h
  | some k =>
    obtain ⟨hk, _⟩ := next_lt e
    rw [e] at h
    dsimp only at h
    cases es : (c.ring k).seen with
    | nil => rw [es] at h; cases h
    | cons d l =>
      rw [es] at h
      dsimp only at h
      have ro := w.ringOK k
      have rn : RingOK c.size { c.ring k with seen := l, done := (c.ring k).done ++ [d] } := by
        refine ⟨?_, fun x hx => ?_⟩
        · have := ro.used
          unfold Ring.used at this ⊢
          rw [es] at this
          simp only [List.length_cons, List.length_append, List.length_nil] at this ⊢
          omega
        · refine ro.desc x ?_
          rw [es]
          rcases hx with hx | hx | hx
          · exact .inl hx
          · exact .inr (.inl (List.mem_cons_of_mem _ hx))
          · rcases List.mem_append.mp hx with hx | hx
            · exact .inr (.inr hx)
            · exact .inr (.inl (by rw [List.mem_singleton.mp hx]; exact List.mem_cons_self ..))
      have wr := wf0_ring (k := k) w rn
      by_cases c1 : (d.last && decide (OUT ≤ c.out.length)) = true
      · rw [if_pos c1] at h
        cases h
      · rw [if_neg c1] at h
        have h := Option.some.inj h
        cases hl : d.last with
        | true =>
          rw [hl] at h c1
          rw [if_pos rfl] at h
          have ho : c.out.length < 16 := by
            rw [Bool.true_and, decide_eq_true_eq] at c1
            show c.out.length < OUT
            omega
          subst h
          refine wf0_fin ⟨wr.size, wr.bufs, wr.buf, wr.at_, wr.rings, ?_, ?_, ?_, ?_, ?_, wr.ring, wr.lent, ?_⟩
          · show (c.part.set k []).length = 4
            rw [List.length_set]
            exact w.part
          · intro p hp
            rcases mem_set_or hp with hp | hp
            · rw [hp]; exact Nat.zero_le _
            · exact w.partLen _ hp
          · show (k + 1) % 4 < 4
            omega
          · show (c.out ++ [_]).length ≤ 16
            rw [List.length_append, List.length_singleton]
            omega
          · intro f hf
            rcases List.mem_append.mp hf with hf | hf
            · exact w.outLen _ hf
            · rw [List.mem_singleton.mp hf, List.length_take]
              exact Nat.min_le_left _ _
          · show (counted c.counts 0 1).length = 3
            rw [counted_len]
            exact w.counts
        | false =>
          rw [hl] at h
          rw [if_neg Bool.false_ne_true] at h
          subst h
          refine wf0_fin ⟨wr.size, wr.bufs, wr.buf, wr.at_, wr.rings, ?_, ?_, hk, wr.out, wr.outLen, wr.ring, wr.lent, wr.counts⟩
          · show (c.part.set k _).length = 4
            rw [List.length_set]
            exact w.part
          · intro p hp
            rcases mem_set_or hp with hp | hp
            · rw [hp, List.length_take]; exact Nat.min_le_left _ _
            · exact w.partLen _ hp
theorem wf0_works : ∀ {n : Nat} {c : Card}, WF0 c → WF0 (Card.works n c).2
  | 0, c, w => w
  | n + 1, c, w => by
    unfold Card.works
    cases e : c.work with
    | none => exact w
    | some u => exact wf0_works (n := n) (wf0_work w e)
theorem pieces_len : ∀ {f : Nat} {l : Bytes} {p : Bytes}, p ∈ pieces f l → p.length ≤ 256
  | 0, l, p, h => nomatch h
  | f + 1, l, p, h => by
    unfold pieces at h
    by_cases c : l.length ≤ SIZE
    · rw [if_pos c] at h
      rw [List.mem_singleton.mp h]
      exact c
    · rw [if_neg c] at h
      cases h with
      | head =>
        rw [List.length_take]
        exact Nat.min_le_left _ _
      | tail _ h => exact pieces_len h
theorem foldl_bufs {ds : List ((Desc × Bytes) × Bool)} : ∀ {b : List Bytes}, b.length = 64 → (∀ x ∈ b, x.length = 256) → (∀ x ∈ ds, x.1.1.buf < 64 ∧ x.1.2.length ≤ 256) →
    (ds.foldl (fun (l : List Bytes) (x : (Desc × Bytes) × Bool) => l.set x.1.1.buf (over (l.getD x.1.1.buf []) x.1.2)) b).length = 64 ∧
      ∀ y ∈ ds.foldl (fun (l : List Bytes) (x : (Desc × Bytes) × Bool) => l.set x.1.1.buf (over (l.getD x.1.1.buf []) x.1.2)) b, y.length = 256 := by
  induction ds with
  | nil => exact fun h1 h2 _ => ⟨h1, h2⟩
  | cons d ds ih =>
    intro b h1 h2 h3
    rw [List.foldl_cons]
    have hd := h3 d (List.mem_cons_self ..)
    refine ih (by rw [List.length_set]; exact h1) (fun x hx => ?_) fun x hx => h3 x (List.mem_cons_of_mem _ hx)
    rcases mem_set_or hx with hx | hx
    · rw [hx]
      exact over_len (h2 _ (getD_mem (by omega))) hd.2
    · exact h2 x hx
theorem ds_mem {seen : List Desc} {ps : List Bytes} {x : (Desc × Bytes) × Bool} (h : x ∈ (((seen.take ps.length).zip ps).zipIdx).map fun x => (x.1, x.2 + 1 == ps.length)) : x.1.1 ∈ seen ∧ x.1.2 ∈ ps := by
  obtain ⟨y, hy, e⟩ := List.mem_map.mp h
  have h1 : y.1 ∈ (seen.take ps.length).zip ps := by
    have := List.mem_zipIdx hy
    rw [this.2.2]
    exact List.getElem_mem _
  rw [← e]
  have h2 := List.of_mem_zip (a := y.1.1) (b := y.1.2) h1
  exact ⟨List.mem_of_mem_take h2.1, h2.2⟩
theorem wf0_comes {c : Card} {f : Bytes} (w : WF0 c) : WF0 (c.comes f).1 := by
  unfold Card.comes
  dsimp only
  split
  · exact ⟨w.size, w.bufs, w.buf, w.at_, w.rings, w.part, w.partLen, w.turn, w.out, w.outLen, w.ring, w.lent, by show (counted _ _ _).length = 3; rw [counted_len]; exact w.counts⟩
  · rename_i hn
    have hd : ∀ x ∈ (((c.lent.seen.take (pieces (f.length + 1) f).length).zip (pieces (f.length + 1) f)).zipIdx).map fun x => (x.1, x.2 + 1 == (pieces (f.length + 1) f).length), x.1.1.buf < 64 ∧ x.1.2.length ≤ 256 := fun x hx => by
      obtain ⟨h1, h2⟩ := ds_mem hx
      exact ⟨(w.lent.desc _ (.inr (.inl h1))).1, pieces_len h2⟩
    obtain ⟨hb1, hb2⟩ := foldl_bufs w.bufs w.buf hd
    refine wf0_fin ⟨w.size, hb1, hb2, w.at_, w.rings, w.part, w.partLen, w.turn, w.out, w.outLen, w.ring, ⟨?_, fun d hx => ?_⟩, by show (counted _ _ _).length = 3; rw [counted_len]; exact w.counts⟩
    · have := w.lent.used
      unfold Ring.used at this ⊢
      simp only [List.length_append, List.length_map, List.length_zipIdx, List.length_zip, List.length_take, List.length_drop]
      omega
    · rcases hx with hx | hx | hx
      · exact w.lent.desc _ (.inl hx)
      · exact w.lent.desc _ (.inr (.inl (List.mem_of_mem_drop hx)))
      · rcases List.mem_append.mp hx with hx | hx
        · exact w.lent.desc _ (.inr (.inr hx))
        · obtain ⟨y, hy, e⟩ := List.mem_map.mp hx
          rw [← e]
          exact hd y hy
theorem foldl_at {ds : List Desc} : ∀ {a : List Nat}, (ds.foldl (fun a d => a.set d.buf 0) a).length = a.length := by
  induction ds with
  | nil => exact rfl
  | cons d ds ih =>
    intro a
    rw [List.foldl_cons, ih, List.length_set]
theorem in_lt {b : Int} (h : ¬ (!isIn 0 63 b) = true) : b.toNat < 64 := by
  unfold isIn at h
  simp at h
  omega
theorem wf0_on {c : Card} (w : WF0 c) (q : Call) : WF0 (on c q).1 := by
  cases q with
  | open_ a b d => exact w
  | write b n l =>
    unfold on
    dsimp only
    split
    · exact w
    · rename_i h1
      split
      · exact w
      · rw [Bool.or_eq_true, not_or] at h1
        have hb := in_lt h1.1
        have hn : n.toNat ≤ 256 := by
          have := h1.2
          unfold isIn at this
          simp at this
          omega
        refine ⟨w.size, by show (c.bufs.set _ _).length = 64; rw [List.length_set]; exact w.bufs, fun x hx => ?_, w.at_, w.rings, w.part, w.partLen, w.turn, w.out, w.outLen, w.ring, w.lent, w.counts⟩
        rcases mem_set_or hx with hx | hx
        · rw [hx]
          refine over_len (w.bufLen hb) ?_
          unfold nats
          rw [List.length_map, List.length_take]
          omega
        · exact w.buf _ hx
  | read b =>
    unfold on
    dsimp only
    split
    · exact w
    · split <;> exact w
  | post r b n t =>
    unfold on
    dsimp only
    split
    · exact w
    · rename_i h1
      split
      · exact w
      · split
        · exact w
        · rename_i h3
          rw [Bool.or_eq_true, Bool.or_eq_true, Bool.or_eq_true, not_or, not_or, not_or] at h1
          have hb := in_lt h1.1.1.2
          have hn : n.toNat ≤ 256 := by
            have := h1.1.2
            unfold isIn at this
            simp at this
            omega
          have ro := w.ringOK r.toNat
          refine wf0_at (c := { c with rings := _ }) (wf0_ring w ⟨?_, fun d hd => ?_⟩) (by rw [List.length_set]; exact w.at_)
          · have := ro.used
            unfold Ring.used at this h3 ⊢
            simp only [List.length_append, List.length_singleton]
            omega
          · rcases hd with hd | hd | hd
            · rcases List.mem_append.mp hd with hd | hd
              · exact ro.desc d (.inl hd)
              · rw [List.mem_singleton.mp hd]
                exact ⟨hb, hn⟩
            · exact ro.desc d (.inr (.inl hd))
            · exact ro.desc d (.inr (.inr hd))
  | door r =>
    unfold on
    dsimp only
    have dr : ∀ {x : Ring}, RingOK c.size x → RingOK c.size { x with posted := [], seen := x.seen ++ x.posted } := fun {x} o => by
      refine ⟨?_, fun d hd => o.desc d ?_⟩
      · have := o.used
        unfold Ring.used at this ⊢
        simp only [List.length_append, List.length_nil]
        omega
      · rcases hd with hd | hd | hd
        · cases hd
        · rcases List.mem_append.mp hd with hd | hd
          · exact .inr (.inl hd)
          · exact .inl hd
        · exact .inr (.inr hd)
    split
    · exact w
    · split
      · exact ⟨w.size, w.bufs, w.buf, w.at_, w.rings, w.part, w.partLen, w.turn, w.out, w.outLen, w.ring, dr w.lent, w.counts⟩
      · exact wf0_ring w (dr (w.ringOK _))
  | work n =>
    unfold on
    dsimp only
    split
    · exact w
    · exact wf0_works w
  | reap r =>
    unfold on
    dsimp only
    split
    · exact w
    · have ro := w.ringOK r.toNat
      refine wf0_at (c := { c with rings := _ }) (wf0_ring w ⟨?_, fun d hd => ?_⟩) (by rw [foldl_at]; exact w.at_)
      · have := ro.used
        unfold Ring.used at this ⊢
        simp only [List.length_nil]
        omega
      · rcases hd with hd | hd | hd
        · exact ro.desc d (.inl hd)
        · exact ro.desc d (.inr (.inl hd))
        · cases hd
  | out =>
    unfold on
    dsimp only
    split
    · exact w
    · rename_i f l e
      refine ⟨w.size, w.bufs, w.buf, w.at_, w.rings, w.part, w.partLen, w.turn, ?_, fun x hx => w.outLen x (by rw [e]; exact List.mem_cons_of_mem _ hx), w.ring, w.lent, w.counts⟩
      have := w.out
      rw [e, List.length_cons] at this
      show l.length ≤ 16
      omega
  | lend b =>
    unfold on
    dsimp only
    split
    · exact w
    · rename_i h1
      split
      · exact w
      · split
        · exact w
        · rename_i h3
          have hb := in_lt h1
          refine ⟨w.size, w.bufs, w.buf, by show (c.at_.set _ _).length = 64; rw [List.length_set]; exact w.at_, w.rings, w.part, w.partLen, w.turn, w.out, w.outLen, w.ring, ⟨?_, fun d hd => ?_⟩, w.counts⟩
          · have := w.lent.used
            unfold Ring.used at this h3 ⊢
            simp only [List.length_append, List.length_singleton]
            omega
          · rcases hd with hd | hd | hd
            · rcases List.mem_append.mp hd with hd | hd
              · exact w.lent.desc d (.inl hd)
              · rw [List.mem_singleton.mp hd]
                exact ⟨hb, Nat.le_refl _⟩
            · exact w.lent.desc d (.inr (.inl hd))
            · exact w.lent.desc d (.inr (.inr hd))
  | wire n l =>
    unfold on
    dsimp only
    split
    · exact w
    · exact wf0_comes w
  | take =>
    unfold on
    dsimp only
    split
    · exact w
    · rename_i d l e
      refine ⟨w.size, w.bufs, w.buf, by show (c.at_.set _ _).length = 64; rw [List.length_set]; exact w.at_, w.rings, w.part, w.partLen, w.turn, w.out, w.outLen, w.ring, ⟨?_, fun x hx => ?_⟩, w.counts⟩
      · have := w.lent.used
        unfold Ring.used at this ⊢
        rw [e, List.length_cons] at this
        dsimp only
        omega
      · refine w.lent.desc x ?_
        rcases hx with hx | hx | hx
        · exact .inl hx
        · exact .inr (.inl hx)
        · exact .inr (.inr (by rw [e]; exact List.mem_cons_of_mem _ hx))
  | tick n =>
    unfold on
    dsimp only
    split
    · exact w
    · unfold Card.tick
      split
      · exact w
      · exact ⟨w.size, w.bufs, w.buf, w.at_, w.rings, w.part, w.partLen, w.turn, w.out, w.outLen, w.ring, w.lent, w.counts⟩
  | cause => exact ⟨w.size, w.bufs, w.buf, w.at_, w.rings, w.part, w.partLen, w.turn, w.out, w.outLen, w.ring, w.lent, w.counts⟩
  | state r =>
    unfold on
    dsimp only
    split <;> exact w
  | counts => exact w
end Rg

/-! Each buffer is in one place, and what the cause is: kept by every call. Plain Lean over the specification. -/
namespace Rg
open Sj50
def rr (c : Card) (i : Nat) : Ring := if i < 4 then c.ring i else c.lent
def bufsOf (c : Card) (i : Nat) : List Nat := (rr c i).all.map (·.buf)
/-- each buffer is in one place: a tells which -/
def One (a : List Nat) (B : Nat → List Nat) : Prop := ∀ i, i < 5 → (B i).Nodup ∧ ∀ b ∈ B i, a.getD b 0 = i + 1
/-- the cause -/
structure Cz (c : Card) : Prop where
  cause : c.cause = (decide (c.many ≤ c.waiting) || decide (c.late ≤ c.since))
  many1 : 1 ≤ c.many
  late1 : 1 ≤ c.late
structure WF (c : Card) : Prop extends WF0 c where
  one : One c.at_ (bufsOf c)
  cz : Cz c
theorem One.perm {a : List Nat} {B B' : Nat → List Nat} (h : One a B) (p : ∀ i, i < 5 → (B' i).Perm (B i)) : One a B' := fun i hi =>
  ⟨(p i hi).nodup_iff.mpr (h i hi).1, fun b hb => (h i hi).2 b ((p i hi).mem_iff.mp hb)⟩
theorem getD_setN {l : List Nat} {i j x : Nat} (h : i < l.length) : (l.set i x).getD j 0 = if j = i then x else l.getD j 0 := by
  rw [List.getD_eq_getElem?_getD, List.getD_eq_getElem?_getD, List.getElem?_set]
  by_cases e : i = j
  · subst e
    simp [h]
  · rw [if_neg e, if_neg fun q => e q.symm]
theorem getD_setO {l : List Nat} {i j x : Nat} (h : j ≠ i) : (l.set i x).getD j 0 = l.getD j 0 := by
  rw [List.getD_eq_getElem?_getD, List.getD_eq_getElem?_getD, List.getElem?_set, if_neg fun e => h e.symm]
theorem One.post {a : List Nat} {B B' : Nat → List Nat} {k b : Nat} (h : One a B) (hk : k < 5) (hb : b < a.length) (ha : a.getD b 0 = 0) (p : (B' k).Perm (b :: B k)) (q : ∀ i, i < 5 → i ≠ k → B' i = B i) : One (a.set b (k + 1)) B' := fun i hi => by
  have out : ∀ j, j < 5 → ∀ x ∈ B j, x ≠ b := fun j hj x hx e => by
    have := (h j hj).2 x hx
    rw [e, ha] at this
    omega
  by_cases e : i = k
  · subst e
    refine ⟨p.nodup_iff.mpr (List.nodup_cons.mpr ⟨fun hm => out i hi b hm rfl, (h i hi).1⟩), fun x hx => ?_⟩
    have hx := p.mem_iff.mp hx
    rw [getD_setN hb]
    split
    · rfl
    · rename_i n
      rcases List.mem_cons.mp hx with hx | hx
      · exact absurd hx n
      · exact (h i hi).2 x hx
  · rw [q i hi e]
    refine ⟨(h i hi).1, fun x hx => ?_⟩
    rw [getD_setO (out i hi x hx)]
    exact (h i hi).2 x hx
theorem foldl_out {ds : List Desc} : ∀ {a : List Nat} {b : Nat}, b ∉ ds.map (·.buf) → (ds.foldl (fun a d => a.set d.buf 0) a).getD b 0 = a.getD b 0 := by
  induction ds with
  | nil => exact fun _ => rfl
  | cons d ds ih =>
    intro a b h
    rw [List.map_cons, List.mem_cons, not_or] at h
    rw [List.foldl_cons, ih h.2, getD_setO h.1]
theorem One.back {a : List Nat} {B B' : Nat → List Nat} {k : Nat} {ds : List Desc} (h : One a B) (hk : k < 5) (p : (B k).Perm (ds.map (·.buf) ++ B' k)) (q : ∀ i, i < 5 → i ≠ k → B' i = B i) : One (ds.foldl (fun a d => a.set d.buf 0) a) B' := fun i hi => by
  have nd := p.nodup_iff.mp (h k hk).1
  by_cases e : i = k
  · subst e
    refine ⟨(List.nodup_append.mp nd).2.1, fun b hb => ?_⟩
    rw [foldl_out fun hm => (List.nodup_append.mp nd).2.2 b hm b hb rfl]
    exact (h i hi).2 b (p.mem_iff.mpr (List.mem_append_right _ hb))
  · rw [q i hi e]
    refine ⟨(h i hi).1, fun b hb => ?_⟩
    rw [foldl_out fun hm => ?_]
    · exact (h i hi).2 b hb
    · have h1 := (h k hk).2 b (p.mem_iff.mpr (List.mem_append_left _ hm))
      rw [(h i hi).2 b hb] at h1
      omega
/-! ### the card's rings -/
theorem rr_set {c : Card} {k : Nat} {x : Ring} (w : WF0 c) (hk : k < 4) (i : Nat) : rr { c with rings := c.rings.set k x } i = if i = k then x else rr c i := by
  unfold rr Card.ring
  dsimp only
  by_cases e : i = k
  · subst e
    rw [if_pos hk, if_pos rfl, List.getD_eq_getElem?_getD, List.getElem?_set_self (by rw [w.rings]; exact hk)]
    rfl
  · rw [if_neg e]
    split
    · rw [List.getD_eq_getElem?_getD, List.getD_eq_getElem?_getD, List.getElem?_set_ne fun q => e q.symm]
    · rfl
theorem rr_lent {c : Card} {x : Ring} (i : Nat) (hi : i < 5) : rr { c with lent := x } i = if i = 4 then x else rr c i := by
  unfold rr Card.ring
  dsimp only
  by_cases e : i = 4
  · subst e
    rfl
  · rw [if_neg e, if_pos (by omega), if_pos (by omega)]
theorem rr_of {c : Card} {k : Nat} (hk : k < 4) : rr c k = c.ring k := if_pos hk
theorem rr_4 {c : Card} : rr c 4 = c.lent := rfl
theorem bufs_set {c : Card} {k : Nat} {x : Ring} (w : WF0 c) (hk : k < 4) (i : Nat) : bufsOf { c with rings := c.rings.set k x } i = if i = k then x.all.map (·.buf) else bufsOf c i := by
  unfold bufsOf
  rw [rr_set w hk]
  split <;> rfl
theorem bufs_lent {c : Card} {x : Ring} (i : Nat) (hi : i < 5) : bufsOf { c with lent := x } i = if i = 4 then x.all.map (·.buf) else bufsOf c i := by
  unfold bufsOf
  rw [rr_lent i hi]
  split <;> rfl
/-- a ring with the same buffers -/
theorem one_ring {c : Card} {k : Nat} {x : Ring} (w : WF c) (hk : k < 4) (p : (x.all.map (·.buf)).Perm ((c.ring k).all.map (·.buf))) : One c.at_ (bufsOf { c with rings := c.rings.set k x }) :=
  w.one.perm fun i hi => by
    rw [bufs_set w.toWF0 hk]
    split
    · rename_i e
      subst e
      unfold bufsOf
      rw [rr_of hk]
      exact p
    · exact List.Perm.refl _
theorem one_lent {c : Card} {x : Ring} (w : WF c) (p : (x.all.map (·.buf)).Perm (c.lent.all.map (·.buf))) : One c.at_ (bufsOf { c with lent := x }) :=
  w.one.perm fun i hi => by
    rw [bufs_lent i hi]
    split
    · rename_i e
      subst e
      exact p
    · exact List.Perm.refl _
theorem cz_fin {c : Card} {n : Nat} (h : Cz c) : Cz (c.finished n) := by
  refine ⟨?_, h.many1, h.late1⟩
  show (c.cause || decide (0 < n ∧ c.many ≤ c.waiting + n)) = (decide (c.many ≤ c.waiting + n) || decide (c.late ≤ c.since))
  rw [h.cause, Bool.eq_iff_iff]
  simp only [Bool.or_eq_true, decide_eq_true_eq]
  omega
theorem cz_same {c u : Card} (h : Cz c) (e1 : u.cause = c.cause) (e2 : u.many = c.many) (e3 : u.waiting = c.waiting) (e4 : u.late = c.late) (e5 : u.since = c.since) : Cz u := by
  refine ⟨?_, ?_, ?_⟩
  · rw [e1, e2, e3, e4, e5]; exact h.cause
  · rw [e2]; exact h.many1
  · rw [e4]; exact h.late1
theorem wf_made {k m l : Nat} (hk : k ≤ 6) (hm : 1 ≤ m) (hl : 1 ≤ l) : WF (made k m l) where
  toWF0 := wf0_made hk
  one := fun i hi => by
    have e : rr (made k m l) i = empty := by
      unfold rr
      split
      · show (List.replicate 4 empty).getD i empty = empty
        rw [List.getD_eq_getElem?_getD, List.getElem?_replicate]
        split <;> rfl
      · rfl
    have e2 : bufsOf (made k m l) i = [] := by
      unfold bufsOf
      rw [e]
      rfl
    rw [e2]
    exact ⟨List.nodup_nil, fun b hb => nomatch hb⟩
  cz := by
    refine ⟨?_, hm, hl⟩
    show false = (decide (m ≤ 0) || decide (l ≤ 0))
    rw [decide_eq_false (by omega), decide_eq_false (by omega)]
    rfl
theorem wf_work {c u : Card} (w : WF c) (h : c.work = some u) : WF u := by
  refine ⟨wf0_work w.toWF0 h, ?_, ?_⟩
  all_goals
    unfold Card.work at h
    cases e : c.next with
    | none => rw [e] at h; cases h
    | some k =>
      obtain ⟨hk, _⟩ := next_lt e
      rw [e] at h
      dsimp only at h
      cases es : (c.ring k).seen with
      | nil => rw [es] at h; cases h
      | cons d l =>
        rw [es] at h
        dsimp only at h
        split at h
        · cases h
        · have h := Option.some.inj h
          have pm : ((({ c.ring k with seen := l, done := (c.ring k).done ++ [d] } : Ring).all).map (·.buf)).Perm ((c.ring k).all.map (·.buf)) := by
            refine List.Perm.map _ ?_
            unfold Ring.all
            rw [es]
            dsimp only
            rw [List.append_assoc, List.append_assoc]
            refine List.Perm.append_left _ ?_
            rw [← List.append_assoc]
            exact List.perm_append_singleton ..
          have o := one_ring w hk pm
          cases hl : d.last with
          | true =>
            rw [hl, if_pos rfl] at h
            subst h
            first | exact o | exact cz_fin (cz_same w.cz rfl rfl rfl rfl rfl)
          | false =>
            rw [hl, if_neg Bool.false_ne_true] at h
            subst h
            first | exact o | exact cz_fin (cz_same w.cz rfl rfl rfl rfl rfl)
theorem wf_works : ∀ {n : Nat} {c : Card}, WF c → WF (Card.works n c).2
  | 0, c, w => w
  | n + 1, c, w => by
    unfold Card.works
    cases e : c.work with
    | none => exact w
    | some u => exact wf_works (n := n) (wf_work w e)
theorem zip_bufs : ∀ (ps : List Bytes) (seen : List Desc) (k n : Nat), ps.length ≤ seen.length →
    (((((seen.take ps.length).zip ps).zipIdx k).map fun x => (x.1, x.2 + 1 == n)).map fun (x : (Desc × Bytes) × Bool) => x.1.1.buf) = (seen.take ps.length).map (·.buf)
  | [], seen, k, n, _ => by simp
  | p :: ps, [], k, n, h => by simp at h
  | p :: ps, d :: l, k, n, h => by
    simp only [List.length_cons] at h
    have ih := zip_bufs ps l (k + 1) n (by omega)
    simp only [List.length_cons, List.take_succ_cons, List.zip_cons_cons, List.zipIdx_cons, List.map_cons]
    exact congrArg _ ih
theorem wf_comes {c : Card} {f : Bytes} (w : WF c) : WF (c.comes f).1 := by
  refine ⟨wf0_comes w.toWF0, ?_, ?_⟩
  · unfold Card.comes
    dsimp only
    split
    · exact w.one
    · rename_i hn
      have pm : (({ c.lent with seen := c.lent.seen.drop (pieces (f.length + 1) f).length, done := c.lent.done ++ ((((c.lent.seen.take (pieces (f.length + 1) f).length).zip (pieces (f.length + 1) f)).zipIdx).map fun x => (x.1, x.2 + 1 == (pieces (f.length + 1) f).length)).map fun (x : (Desc × Bytes) × Bool) => (⟨x.1.1.buf, x.1.2.length, x.2⟩ : Desc) } : Ring).all.map (·.buf)).Perm (c.lent.all.map (·.buf)) := by
        unfold Ring.all
        dsimp only
        have e := zip_bufs (pieces (f.length + 1) f) c.lent.seen 0 (pieces (f.length + 1) f).length (by omega)
        simp only [List.map_append, List.map_map] at e ⊢
        have e' : ((fun (d : Desc) => d.buf) ∘ (fun (x : (Desc × Bytes) × Bool) => (⟨x.1.1.buf, x.1.2.length, x.2⟩ : Desc)) ∘ fun (x : (Desc × Bytes) × Nat) => (x.1, x.2 + 1 == (pieces (f.length + 1) f).length)) = ((fun (x : (Desc × Bytes) × Bool) => x.1.1.buf) ∘ fun (x : (Desc × Bytes) × Nat) => (x.1, x.2 + 1 == (pieces (f.length + 1) f).length)) := rfl
        rw [e', e, List.append_assoc, List.append_assoc]
        refine List.Perm.append_left _ ?_
        conv => rhs; rw [← List.take_append_drop (pieces (f.length + 1) f).length c.lent.seen, List.map_append]
        have p1 : (List.map (fun (d : Desc) => d.buf) (List.drop (pieces (f.length + 1) f).length c.lent.seen) ++ (List.map (fun (d : Desc) => d.buf) c.lent.done ++ List.map (fun (d : Desc) => d.buf) (List.take (pieces (f.length + 1) f).length c.lent.seen))).Perm
            (List.map (fun (d : Desc) => d.buf) (List.take (pieces (f.length + 1) f).length c.lent.seen) ++ (List.map (fun (d : Desc) => d.buf) (List.drop (pieces (f.length + 1) f).length c.lent.seen) ++ List.map (fun (d : Desc) => d.buf) c.lent.done)) := by
          rw [← List.append_assoc]
          exact List.perm_append_comm
        rw [List.append_assoc]
        exact p1
      have o := one_lent w pm
      exact o
  · unfold Card.comes
    dsimp only
    split
    · exact cz_same w.cz rfl rfl rfl rfl rfl
    · exact cz_fin (cz_same w.cz rfl rfl rfl rfl rfl)
theorem in_3 {r : Int} (h : ¬ (!isIn 0 3 r) = true) : r.toNat < 4 := by
  unfold isIn at h
  simp at h
  omega
theorem mine_at0 {c : Card} (w : WF0 c) {b : Int} (h : ¬ (!isMine c b) = true) : b.toNat < c.at_.length ∧ c.at_.getD b.toNat 0 = 0 := by
  unfold isMine isIn at h
  simp only [Bool.not_eq_true, Bool.not_eq_false', Bool.and_eq_true, decide_eq_true_eq, beq_iff_eq] at h
  have hl : b.toNat < c.at_.length := by rw [w.at_]; omega
  refine ⟨hl, ?_⟩
  have := h.2
  rw [List.getD_eq_getElem?_getD, List.getElem?_eq_getElem hl] at this ⊢
  exact this
theorem wf_on {c : Card} (w : WF c) (q : Call) : WF (on c q).1 := by
  have w0 := wf0_on w.toWF0 q
  refine ⟨w0, ?_, ?_⟩
  · cases q with
    | open_ a b d => exact w.one
    | write b n l =>
      unfold on
      dsimp only
      split
      · exact w.one
      · split <;> exact w.one
    | read b =>
      unfold on
      dsimp only
      split
      · exact w.one
      · split <;> exact w.one
    | post r b n t =>
      unfold on
      dsimp only
      split
      · exact w.one
      · rename_i h1
        split
        · exact w.one
        · rename_i h2
          split
          · exact w.one
          · rw [Bool.or_eq_true, Bool.or_eq_true, Bool.or_eq_true, not_or, not_or, not_or] at h1
            have hr := in_3 h1.1.1.1
            obtain ⟨m1, m2⟩ := mine_at0 w.toWF0 h2
            refine w.one.post (k := r.toNat) (by omega) m1 m2 ?_ fun i hi hn => ?_
            · show (bufsOf { c with rings := c.rings.set r.toNat _ } r.toNat).Perm _
              rw [bufs_set w.toWF0 hr, if_pos rfl]
              unfold bufsOf
              rw [rr_of hr]
              unfold Ring.all
              simp only [List.map_append, List.map_cons, List.map_nil, List.append_assoc]
              exact List.perm_middle
            · show bufsOf { c with rings := c.rings.set r.toNat _ } i = _
              rw [bufs_set w.toWF0 hr, if_neg hn]
    | door r =>
      unfold on
      dsimp only
      have dr : ∀ {x : Ring}, ((({ x with posted := [], seen := x.seen ++ x.posted } : Ring).all).map (·.buf)).Perm (x.all.map (·.buf)) := fun {x} => by
        refine List.Perm.map _ ?_
        unfold Ring.all
        dsimp only
        rw [List.nil_append]
        exact List.perm_append_comm.append_right _
      split
      · exact w.one
      · rename_i h1
        split
        · have o := one_lent w (dr (x := c.lent))
          exact o
        · rename_i h2
          have hr : r.toNat < 4 := by
            unfold isIn at h1
            simp at h1
            omega
          exact one_ring w hr dr
    | work n =>
      unfold on
      dsimp only
      split
      · exact w.one
      · exact (wf_works w).one
    | reap r =>
      unfold on
      dsimp only
      split
      · exact w.one
      · rename_i h1
        have hr := in_3 h1
        refine w.one.back (k := r.toNat) (by omega) ?_ fun i hi hn => ?_
        · show List.Perm _ (_ ++ bufsOf { c with rings := c.rings.set r.toNat _ } r.toNat)
          rw [bufs_set w.toWF0 hr, if_pos rfl]
          unfold bufsOf
          rw [rr_of hr]
          unfold Ring.all
          simp only [List.map_append, List.append_nil]
          exact List.perm_append_comm
        · show bufsOf { c with rings := c.rings.set r.toNat _ } i = _
          rw [bufs_set w.toWF0 hr, if_neg hn]
    | out =>
      unfold on
      dsimp only
      split <;> exact w.one
    | lend b =>
      unfold on
      dsimp only
      split
      · exact w.one
      · split
        · exact w.one
        · rename_i h2
          split
          · exact w.one
          · obtain ⟨m1, m2⟩ := mine_at0 w.toWF0 h2
            refine w.one.post (k := 4) (by omega) m1 m2 ?_ fun i hi hn => ?_
            · show (bufsOf { c with lent := _ } 4).Perm _
              rw [bufs_lent 4 (by omega), if_pos rfl]
              unfold bufsOf
              rw [rr_4]
              unfold Ring.all
              simp only [List.map_append, List.map_cons, List.map_nil, List.append_assoc]
              exact List.perm_middle
            · show bufsOf { c with lent := _ } i = _
              rw [bufs_lent i hi, if_neg hn]
    | wire n l =>
      unfold on
      dsimp only
      split
      · exact w.one
      · exact (wf_comes w).one
    | take =>
      unfold on
      dsimp only
      split
      · exact w.one
      · rename_i d l e
        refine w.one.back (k := 4) (ds := [d]) (by omega) ?_ fun i hi hn => ?_
        · show List.Perm _ (_ ++ bufsOf { c with lent := _ } 4)
          rw [bufs_lent 4 (by omega), if_pos rfl]
          unfold bufsOf
          rw [rr_4]
          unfold Ring.all
          rw [e]
          simp only [List.map_append, List.map_cons, List.map_nil]
          exact List.perm_middle
        · show bufsOf { c with lent := _ } i = _
          rw [bufs_lent i hi, if_neg hn]
    | tick n =>
      unfold on
      dsimp only
      split
      · exact w.one
      · unfold Card.tick
        split <;> exact w.one
    | cause => exact w.one
    | state r =>
      unfold on
      dsimp only
      split <;> exact w.one
    | counts => exact w.one
  · have s : ∀ {u : Card}, u.cause = c.cause → u.many = c.many → u.waiting = c.waiting → u.late = c.late → u.since = c.since → Cz u := fun e1 e2 e3 e4 e5 => cz_same w.cz e1 e2 e3 e4 e5
    cases q with
    | open_ a b d => exact w.cz
    | write b n l =>
      unfold on
      dsimp only
      split
      · exact w.cz
      · split <;> exact s rfl rfl rfl rfl rfl
    | read b =>
      unfold on
      dsimp only
      split
      · exact w.cz
      · split <;> exact w.cz
    | post r b n t =>
      unfold on
      dsimp only
      split
      · exact w.cz
      · split
        · exact w.cz
        · split <;> exact s rfl rfl rfl rfl rfl
    | door r =>
      unfold on
      dsimp only
      split
      · exact w.cz
      · split <;> exact s rfl rfl rfl rfl rfl
    | work n =>
      unfold on
      dsimp only
      split
      · exact w.cz
      · exact (wf_works w).cz
    | reap r =>
      unfold on
      dsimp only
      split <;> exact s rfl rfl rfl rfl rfl
    | out =>
      unfold on
      dsimp only
      split <;> exact s rfl rfl rfl rfl rfl
    | lend b =>
      unfold on
      dsimp only
      split
      · exact w.cz
      · split
        · exact w.cz
        · split <;> exact s rfl rfl rfl rfl rfl
    | wire n l =>
      unfold on
      dsimp only
      split
      · exact w.cz
      · exact (wf_comes w).cz
    | take =>
      unfold on
      dsimp only
      split <;> exact s rfl rfl rfl rfl rfl
    | tick n =>
      unfold on
      dsimp only
      split
      · exact w.cz
      · unfold Card.tick
        split
        · exact w.cz
        · refine ⟨?_, w.cz.many1, w.cz.late1⟩
          show (c.cause || decide (c.late ≤ c.since + n.toNat)) = (decide (c.many ≤ c.waiting) || decide (c.late ≤ c.since + n.toNat))
          rw [w.cz.cause, Bool.eq_iff_iff]
          simp only [Bool.or_eq_true, decide_eq_true_eq]
          omega
    | cause =>
      refine ⟨?_, w.cz.many1, w.cz.late1⟩
      show false = (decide (c.many ≤ 0) || decide (c.late ≤ 0))
      rw [decide_eq_false (by have := w.cz.many1; omega), decide_eq_false (by have := w.cz.late1; omega)]
      rfl
    | state r =>
      unfold on
      dsimp only
      split <;> exact w.cz
    | counts => exact w.cz
end Rg

/-! The list that is handed in, read as calls: what the program's loop meets. -/
namespace Rg
/-- one call as it stands in the list -/
def spell : List Int → List Int
  | [] => []
  | p :: xs => p :: (xs.length : Int) :: (xs ++ [0])
def spells (cs : List (List Int)) : List Int := cs.flatMap spell
theorem spells_cons (c : List Int) (cs : List (List Int)) : spells (c :: cs) = spell c ++ spells cs := rfl

theorem row_some {r x s : List Int} (h : PyFlat.row r = some (x, s)) : r = (x.length : Int) :: (x ++ s) := by
  cases r with
  | nil => cases h
  | cons n r =>
    unfold PyFlat.row at h
    dsimp only at h
    by_cases c : 0 ≤ n ∧ n.toNat ≤ r.length
    · rw [if_pos c] at h
      cases h
      have e : ((r.take n.toNat).length : Int) = n := by
        rw [List.length_take, Nat.min_eq_left c.2]
        exact Int.toNat_of_nonneg c.1
      rw [e, List.take_append_drop]
    · rw [if_neg c] at h
      cases h
theorem rows_len : ∀ {k : Nat} {r : List Int} {xs : List (List Int)} {t : List Int}, PyFlat.rows k r = some (xs, t) → xs.length = k
  | 0, r, xs, t, h => by
    cases h
    rfl
  | k + 1, r, xs, t, h => by
    unfold PyFlat.rows at h
    cases e1 : PyFlat.row r with
    | none =>
      rw [e1] at h
      cases h
    | some q =>
      obtain ⟨x, s⟩ := q
      rw [e1] at h
      dsimp only at h
      cases e2 : PyFlat.rows k s with
      | none =>
        rw [e2] at h
        cases h
      | some q =>
        obtain ⟨ys, u⟩ := q
        rw [e2] at h
        cases h
        rw [List.length_cons, rows_len e2]
theorem call_some {l : List Int} {c : List (List Int)} {t : List Int} (h : PyWide.call l = some (c, t)) (h1 : c.length = 1) : ∃ p xs, c = [p :: xs] ∧ l = spell (p :: xs) ++ t := by
  cases l with
  | nil => cases h
  | cons p r =>
    unfold PyWide.call at h
    dsimp only at h
    cases e1 : PyFlat.row r with
    | none =>
      rw [e1] at h
      cases h
    | some q =>
      obtain ⟨ns, s⟩ := q
      rw [e1] at h
      have er := row_some e1
      cases s with
      | nil => cases h
      | cons k s =>
        dsimp only at h
        by_cases ck : 0 ≤ k
        · rw [if_pos ck] at h
          cases e2 : PyFlat.rows k.toNat s with
          | none =>
            rw [e2] at h
            cases h
          | some q =>
            obtain ⟨xs, u⟩ := q
            rw [e2] at h
            cases h
            have hl := rows_len e2
            have hx : xs = [] := by
              cases xs with
              | nil => rfl
              | cons a b =>
                simp at h1
            subst hx
            have hk : k = 0 := by
              simp at hl
              omega
            subst hk
            have eu : s = t := by
              have : PyFlat.rows 0 s = some ([], s) := rfl
              have e3 : PyFlat.rows (0 : Int).toNat s = some ([], s) := this
              rw [e3] at e2
              cases e2
              rfl
            subst eu
            refine ⟨p, ns, rfl, ?_⟩
            rw [er]
            simp [spell]
        · rw [if_neg ck] at h
          cases h
theorem calls_some : ∀ {f : Nat} {l : List Int} {cs : List (List (List Int))}, PyWide.calls f l = some cs → (∀ c ∈ cs, c.length = 1) →
    ∃ ds : List (List Int), cs = ds.map (fun d => [d]) ∧ l = spells ds ∧ ∀ d ∈ ds, d ≠ []
  | _, [], cs, h, _ => by
    unfold PyWide.calls at h
    cases h
    exact ⟨[], rfl, rfl, fun _ z => nomatch z⟩
  | 0, _ :: _, cs, h, _ => by
    unfold PyWide.calls at h
    cases h
  | f + 1, p :: r, cs, h, ha => by
    unfold PyWide.calls at h
    cases e1 : PyWide.call (p :: r) with
    | none =>
      rw [e1] at h
      cases h
    | some q =>
      obtain ⟨c, t⟩ := q
      rw [e1] at h
      dsimp only at h
      cases e2 : PyWide.calls f t with
      | none =>
        rw [e2] at h
        cases h
      | some cs' =>
        rw [e2] at h
        cases h
        obtain ⟨p', xs, ec, el⟩ := call_some e1 (ha c (List.mem_cons_self ..))
        obtain ⟨ds, ed, et, hne⟩ := calls_some e2 (fun c' m => ha c' (List.mem_cons_of_mem _ m))
        refine ⟨(p' :: xs) :: ds, by rw [ec, ed]; rfl, by rw [el, et]; rfl, ?_⟩
        intro d m
        cases m with
        | head => exact fun z => nomatch z
        | tail _ m => exact hne d m
/-- what is asked, in plain words: the list is the spelling of calls, each a call of the document; at most 60; and what is due is what the machine answers, call by call -/
theorem asked_calls {l : List Int} (h : PySj50.answers_asked l = true) : ∃ ds : List (List Int), l = spells ds ∧ ds.length ≤ 60 ∧
    (∀ d ∈ ds, (Sj50Neutral.callOf d).isSome = true ∧ d.all (fun z => decide (-(2 ^ 31) ≤ z) && decide (z < 2 ^ 31)) = true) ∧
    PySj50.answers l = PyFlat.told (PyFlat.played Sj50Neutral.step Sj50Neutral.start (ds.map fun d => [d])) ∧ (PySj50.answers l).length ≤ 10000000 := by
  unfold PySj50.answers_asked at h
  cases e : PySj50.calls l with
  | none =>
    rw [e] at h
    cases h
  | some cs =>
    rw [e] at h
    dsimp only at h
    rw [Bool.and_eq_true, Bool.and_eq_true] at h
    obtain ⟨⟨h1, h2⟩, h5⟩ := h
    unfold Sj50Neutral.asked at h2
    rw [Bool.and_eq_true, Bool.and_eq_true, Bool.and_eq_true] at h2
    obtain ⟨ha, _, hl, _⟩ := h2
    have ha' := List.all_eq_true.mp ha
    have h1' : ∀ c ∈ cs, c.length = 1 := fun c m => by
      have q := ha' c m
      unfold Sj50Neutral.asked1 at q
      rw [Bool.and_eq_true] at q
      exact eq_of_beq q.1
    obtain ⟨ds, ed, el, hne⟩ := calls_some e h1'
    subst ed
    refine ⟨ds, el, by simpa using hl, fun d m => ?_, ?_, of_decide_eq_true h5⟩
    · have q := ha' [d] (List.mem_map.mpr ⟨d, m, rfl⟩)
      unfold Sj50Neutral.asked1 at q
      rw [Bool.and_eq_true, Bool.and_eq_true] at q
      exact ⟨q.2.2, q.2.1⟩
    · unfold PySj50.answers
      rw [e]
/-! ### the answers, call by call -/
/-- the state behind some calls, and what they answered -/
def after (s : Sj50.State) : List (List Int) → Sj50.State
  | [] => s
  | d :: r => after (Sj50Neutral.step s [d]).1 r
def said (s : Sj50.State) (ds : List (List Int)) : List Int := PyFlat.told (PyFlat.played Sj50Neutral.step s (ds.map fun d => [d]))
theorem said_nil (s : Sj50.State) : said s [] = [] := rfl
theorem said_cons (s : Sj50.State) (d : List Int) (r : List (List Int)) : said s (d :: r) = (((Sj50Neutral.step s [d]).2.length : Int) :: (Sj50Neutral.step s [d]).2) ++ said (Sj50Neutral.step s [d]).1 r := rfl
theorem said_app : ∀ (a : List (List Int)) (s : Sj50.State) (b : List (List Int)), said s (a ++ b) = said s a ++ said (after s a) b
  | [], s, b => rfl
  | d :: r, s, b => by
    rw [List.cons_append, said_cons, said_cons, said_app r, List.append_assoc]
    rfl
theorem after_app : ∀ (a : List (List Int)) (s : Sj50.State) (b : List (List Int)), after s (a ++ b) = after (after s a) b
  | [], s, b => rfl
  | d :: r, s, b => after_app r _ b
theorem spells_app (a b : List (List Int)) : spells (a ++ b) = spells a ++ spells b := by
  unfold spells
  rw [List.flatMap_append]
theorem at_spell {A B xs : List Int} {p : Int} : (A ++ (spell (p :: xs) ++ B))[A.length]? = some p ∧ (A ++ (spell (p :: xs) ++ B))[A.length + 1]? = some (xs.length : Int) ∧ ((A ++ (spell (p :: xs) ++ B)).drop (A.length + 2)).take xs.length = xs := by
  refine ⟨?_, ?_, ?_⟩
  · rw [List.getElem?_append_right (Nat.le_refl _), Nat.sub_self]
    rfl
  · rw [List.getElem?_append_right (by omega), show A.length + 1 - A.length = 1 by omega]
    rfl
  · rw [← List.drop_drop, List.drop_left]
    show ((xs ++ [0]) ++ B).take xs.length = xs
    rw [List.append_assoc, List.take_left]
theorem spell_len {p : Int} {xs : List Int} : (spell (p :: xs)).length = xs.length + 3 := by
  simp [spell]
end Rg

/-! The document's calls by their numbers: what is out of range is -2; without a card all but open is -7. Plain Lean over the specification. -/
namespace Rg
open Sj50
/-- numbers within their ranges -/
def within : List (Int × Int) → List Int → Bool
  | [], _ => true
  | _ :: _, [] => false
  | r :: rs, x :: xs => (decide (r.1 ≤ x) && decide (x ≤ r.2)) && within rs xs
def rangesOf (n : Int) : List (Int × Int) :=
  if n = 1 then [(1, 6), (1, 64), (1, 1000)] else if n = 2 then [(0, 63), (0, 256)] else if n = 3 then [(0, 63)] else if n = 4 then [(0, 3), (0, 63), (1, 256), (0, 1)] else if n = 5 then [(0, 4)]
  else if n = 6 then [(1, 64)] else if n = 7 then [(0, 3)] else if n = 9 then [(0, 63)] else if n = 10 then [(1, 1024)] else if n = 12 then [(1, 1000)] else if n = 14 then [(0, 4)] else []
theorem callOf_num {n : Int} {xs : List Int} (h : (Sj50Neutral.callOf (n :: xs)).isSome = true) : 1 ≤ n ∧ n ≤ 15 ∧ (rangesOf n).length ≤ xs.length := by
  unfold Sj50Neutral.callOf at h
  split at h <;> first
    | (rename_i e; injection e with e1 e2; subst e1 e2; simp [rangesOf]; try omega)
    | cases h
theorem if_some {α : Type} {p : Prop} [Decidable p] {x y : α} (h : (if p then some x else none) = some y) : x = y ∧ p := by
  by_cases c : p
  · rw [if_pos c] at h
    exact ⟨Option.some.inj h, c⟩
  · rw [if_neg c] at h
    cases h
theorem isIn_eq {a b z : Int} : isIn a b z = (decide (a ≤ z) && decide (z ≤ b)) := rfl
/-- an open -/
theorem callOf_open {xs : List Int} {q : Call} (h : Sj50Neutral.callOf (1 :: xs) = some q) : ∃ k m l, xs = [k, m, l] ∧ q = .open_ k m l := by
  unfold Sj50Neutral.callOf at h
  split at h <;> first
    | (rename_i e; injection e with e1 e2; cases h; exact ⟨_, _, _, e2, rfl⟩)
    | (rename_i e; injection e with e1 e2; exact absurd e1 (by decide))
    | cases h
theorem callOf_other {n : Int} {xs : List Int} {q : Call} (h : Sj50Neutral.callOf (n :: xs) = some q) (hn : n ≠ 1) : ∀ k m l, q ≠ .open_ k m l := by
  intro k m l e
  subst e
  unfold Sj50Neutral.callOf at h
  split at h <;> first
    | (rename_i e; injection e with e1 e2; exact hn e1)
    | (cases (if_some h).1)
    | cases h
/-- a number that isn't as told -/
theorem on_bad {n : Int} {xs : List Int} {q : Call} (c : Card) (h : Sj50Neutral.callOf (n :: xs) = some q) (hn : n ≠ 1) (hw : within (rangesOf n) xs = false) : on c q = (c, just (-2)) := by
  unfold Sj50Neutral.callOf at h
  split at h
  · rename_i e; injection e with e1 e2; exact absurd e1 hn
  · rename_i e; injection e with e1 e2; subst e1 e2
    obtain ⟨rfl, _⟩ := if_some h
    simp [rangesOf, within] at hw
    unfold on
    dsimp only
    rw [if_pos (by simp [isIn]; omega)]
  · rename_i e; injection e with e1 e2; subst e1 e2; cases h
    simp [rangesOf, within] at hw
    unfold on; dsimp only
    rw [if_pos (by simp [isIn]; omega)]
  · rename_i e; injection e with e1 e2; subst e1 e2; cases h
    simp [rangesOf, within] at hw
    unfold on; dsimp only
    rw [if_pos (by simp [isIn]; omega)]
  · rename_i e; injection e with e1 e2; subst e1 e2; cases h
    simp [rangesOf, within] at hw
    unfold on; dsimp only
    rw [if_pos (by simp [isIn]; omega)]
  · rename_i e; injection e with e1 e2; subst e1 e2; cases h
    simp [rangesOf, within] at hw
    unfold on; dsimp only
    rw [if_pos (by simp [isIn]; omega)]
  · rename_i e; injection e with e1 e2; subst e1 e2; cases h
    simp [rangesOf, within] at hw
    unfold on; dsimp only
    rw [if_pos (by simp [isIn]; omega)]
  · rename_i e; injection e with e1 e2; subst e1 e2; cases h
    simp [rangesOf, within] at hw
  · rename_i e; injection e with e1 e2; subst e1 e2; cases h
    simp [rangesOf, within] at hw
    unfold on; dsimp only
    rw [if_pos (by simp [isIn]; omega)]
  · rename_i e; injection e with e1 e2; subst e1 e2
    obtain ⟨rfl, _⟩ := if_some h
    simp [rangesOf, within] at hw
    unfold on
    dsimp only
    rw [if_pos (by simp [isIn]; omega)]
  · rename_i e; injection e with e1 e2; subst e1 e2; cases h
    simp [rangesOf, within] at hw
  · rename_i e; injection e with e1 e2; subst e1 e2; cases h
    simp [rangesOf, within] at hw
    unfold on; dsimp only
    rw [if_pos (by simp [isIn]; omega)]
  · rename_i e; injection e with e1 e2; subst e1 e2; cases h
    simp [rangesOf, within] at hw
  · rename_i e; injection e with e1 e2; subst e1 e2; cases h
    simp [rangesOf, within] at hw
    unfold on; dsimp only
    rw [if_pos (by simp [isIn]; omega)]
  · rename_i e; injection e with e1 e2; subst e1 e2; cases h
    simp [rangesOf, within] at hw
  · cases h
theorem step_none {q : Call} (h : ∀ k m l, q ≠ .open_ k m l) : Sj50.step none q = (none, just (-7)) := by
  cases q with
  | open_ k m l => exact absurd rfl (h k m l)
  | _ => rfl
theorem step_some {c : Card} {q : Call} (h : ∀ k m l, q ≠ .open_ k m l) : Sj50.step (some c) q = (some (on c q).1, (on c q).2) := by
  cases q with
  | open_ k m l => exact absurd rfl (h k m l)
  | _ => rfl
theorem neutral_step {s : State} {d : List Int} {q : Call} (h : Sj50Neutral.callOf d = some q) : Sj50Neutral.step s [d] = ((Sj50.step s q).1, (Sj50.step s q).2.v :: (Sj50.step s q).2.l) := by
  unfold Sj50Neutral.step
  show (match Sj50Neutral.callOf d with | none => (s, []) | some q => _) = _
  rw [h]
end Rg

/-! How the document's card lies in the heap: descriptors and rings. -/
namespace Rg
open PySem PySem.Spec PyProof.Rows L2
/-- the i-th statement of the program -/
def top (i : Nat) : Stmt := PySem.Challenge.pw_cardringsdesk_s01_answers.main.body.getD i (.Pass ⟨0, 0, 0, 0⟩)
/-! ### fields -/
theorem lk_here {k : Str} {v : V} {r : List (Str × V)} : List.lookup k ((k, v) :: r) = some v := by
  have e : (k == k) = true := beq_self_eq_true k
  simp only [List.lookup, e]
theorem lk_past {k g : Str} {v : V} {r : List (Str × V)} (h : (k == g) = false) : List.lookup k ((g, v) :: r) = List.lookup k r := by
  simp only [List.lookup, h]
theorem put_here {f : Str} {v x : V} {r : List (Str × V)} : putF f v ((f, x) :: r) = (f, v) :: r := if_pos rfl
theorem put_past {f g : Str} {v x : V} {r : List (Str × V)} (h : ¬ g = f) : putF f v ((g, x) :: r) = (g, x) :: putF f v r := if_neg h
/-! ### slices -/
theorem sIx_nn {n d : Nat} {v : Int} (h : 0 ≤ v) : HT.sIx n d (some v) = min v.toNat n := by
  show (if v < 0 then (v + (n : Int)).toNat else min v.toNat n) = min v.toNat n
  rw [if_neg (by omega)]
theorem cut_to {xs : List V} {j : Int} (h : 0 ≤ j) : cutV xs none (some j) = xs.take j.toNat := by
  unfold cutV
  rw [sIx_nn h, HT.sIx_none, List.drop_zero, Nat.sub_zero, ← List.take_eq_take_min]
theorem cut_from {xs : List V} {i : Int} (h : 0 ≤ i) : cutV xs (some i) none = xs.drop i.toNat := by
  unfold cutV
  rw [sIx_nn h, HT.sIx_none]
  by_cases c : i.toNat ≤ xs.length
  · rw [Nat.min_eq_left c, List.take_of_length_le (by rw [List.length_drop]; exact Nat.le_refl _)]
  · rw [Nat.min_eq_right (show xs.length ≤ i.toNat by omega), List.drop_of_length_le (Nat.le_refl _), List.drop_of_length_le (by omega), List.take_nil]
theorem cut_mid {xs : List V} {i j : Int} (hi : 0 ≤ i) (hj : 0 ≤ j) : cutV xs (some i) (some j) = (xs.drop i.toNat).take (j.toNat - i.toNat) := by
  unfold cutV
  rw [sIx_nn hi, sIx_nn hj]
  by_cases c : i.toNat ≤ xs.length
  · rw [Nat.min_eq_left c]
    apply List.ext_getElem?
    intro k
    simp only [List.getElem?_take, List.getElem?_drop]
    by_cases c2 : k < j.toNat - i.toNat
    · rw [if_pos c2]
      split
      · rfl
      · rw [List.getElem?_eq_none (by omega)]
    · rw [if_neg c2, if_neg (by omega)]
  · rw [Nat.min_eq_right (show xs.length ≤ i.toNat by omega), List.drop_of_length_le (Nat.le_refl _), List.drop_of_length_le (show xs.length ≤ i.toNat by omega), List.take_nil, List.take_nil]
/-! ### bytes, descriptors -/
def bV (l : Sj50.Bytes) : List V := l.map fun (n : Nat) => V.int (n : Int)
theorem bV_len (l : Sj50.Bytes) : (bV l).length = l.length := List.length_map ..
theorem bV_app (l r : Sj50.Bytes) : bV (l ++ r) = bV l ++ bV r := List.map_append ..
theorem bV_take (n : Nat) (l : Sj50.Bytes) : bV (l.take n) = (bV l).take n := List.map_take ..
theorem bV_drop (n : Nat) (l : Sj50.Bytes) : bV (l.drop n) = (bV l).drop n := List.map_drop ..
def dF (d : Sj50.Desc) : List (Str × V) := [("buffer", .int (d.buf : Int)), ("length", .int (d.len : Int)), ("last", .int (Sj50.bit d.last))]
theorem dF_buffer (d : Sj50.Desc) : (dF d).lookup ("buffer" : Str) = some (.int (d.buf : Int)) := lk_here
theorem dF_length (d : Sj50.Desc) : (dF d).lookup ("length" : Str) = some (.int (d.len : Int)) := (lk_past (by decide +kernel)).trans lk_here
theorem dF_last (d : Sj50.Desc) : (dF d).lookup ("last" : Str) = some (.int (Sj50.bit d.last)) := (lk_past (by decide +kernel)).trans ((lk_past (by decide +kernel)).trans lk_here)
/-- a descriptor stands there -/
def DescV (CD : Addr) (H : Hp) (v : V) (d : Sj50.Desc) : Prop := ∃ a dx, v = .ref a ∧ H a = some (.ins CD dx (dF d))
abbrev Descs (CD : Addr) (H : Hp) : List V → List Sj50.Desc → Prop := Paired (DescV CD H)
/-- none of these places holds a descriptor -/
def NoD (CD : Addr) (H : Hp) (F : List Addr) : Prop := ∀ b ∈ F, ∀ dx fs, H b ≠ some (.ins CD dx fs)
/-- all that stood outside F stands -/
def Out (H H' : Hp) (F : List Addr) : Prop := ∀ b o, H b = some o → b ∉ F → H' b = some o
theorem Out.refl (H : Hp) (F : List Addr) : Out H H F := fun _ _ h _ => h
theorem Paired.mono {α β : Type} {R S : α → β → Prop} (h : ∀ a b, R a b → S a b) : ∀ {xs : List α} {ys : List β}, Paired R xs ys → Paired S xs ys
  | _, _, .nil => .nil
  | _, _, .cons r t => .cons (h _ _ r) (Paired.mono h t)
theorem Paired.append {α β : Type} {R : α → β → Prop} : ∀ {xs xs' : List α} {ys ys' : List β}, Paired R xs ys → Paired R xs' ys' → Paired R (xs ++ xs') (ys ++ ys')
  | _, _, _, _, .nil, s => s
  | _, _, _, _, .cons r t, s => .cons r (Paired.append t s)
theorem Paired.len {α β : Type} {R : α → β → Prop} : ∀ {xs : List α} {ys : List β}, Paired R xs ys → xs.length = ys.length
  | _, _, .nil => rfl
  | _, _, .cons _ t => congrArg (· + 1) (Paired.len t)
theorem DescV.out {CD : Addr} {H H' : Hp} {F : List Addr} {v : V} {d : Sj50.Desc} (n : NoD CD H F) (k : Out H H' F) (h : DescV CD H v d) : DescV CD H' v d := by
  obtain ⟨a, dx, e, ha⟩ := h
  exact ⟨a, dx, e, k a _ ha fun m => n a m _ _ ha⟩
theorem Descs.out {CD : Addr} {H H' : Hp} {F : List Addr} {xs : List V} {ds : List Sj50.Desc} (n : NoD CD H F) (k : Out H H' F) (h : Descs CD H xs ds) : Descs CD H' xs ds := Paired.mono (fun _ _ => DescV.out n k) h
/-! ### a ring -/
def rF (z : Nat) (p s d f : Addr) : List (Str × V) := [("places", .int (z : Int)), ("posted", .ref p), ("seen", .ref s), ("done", .ref d), ("frame", .ref f)]
section
variable (z : Nat) (p s d f x : Addr)
theorem rF_places : (rF z p s d f).lookup ("places" : Str) = some (.int (z : Int)) := lk_here
theorem rF_posted : (rF z p s d f).lookup ("posted" : Str) = some (.ref p) := (lk_past (by decide +kernel)).trans lk_here
theorem rF_seen : (rF z p s d f).lookup ("seen" : Str) = some (.ref s) := (lk_past (by decide +kernel)).trans ((lk_past (by decide +kernel)).trans lk_here)
theorem rF_done : (rF z p s d f).lookup ("done" : Str) = some (.ref d) := (lk_past (by decide +kernel)).trans ((lk_past (by decide +kernel)).trans ((lk_past (by decide +kernel)).trans lk_here))
theorem rF_frame : (rF z p s d f).lookup ("frame" : Str) = some (.ref f) := (lk_past (by decide +kernel)).trans ((lk_past (by decide +kernel)).trans ((lk_past (by decide +kernel)).trans ((lk_past (by decide +kernel)).trans lk_here)))
theorem rF_no {m : Str} (h1 : (m == ("places" : Str)) = false) (h2 : (m == ("posted" : Str)) = false) (h3 : (m == ("seen" : Str)) = false) (h4 : (m == ("done" : Str)) = false) (h5 : (m == ("frame" : Str)) = false) : (rF z p s d f).lookup m = none :=
  (lk_past h1).trans ((lk_past h2).trans ((lk_past h3).trans ((lk_past h4).trans ((lk_past h5).trans rfl))))
theorem rF_putP : putF "posted" (.ref x) (rF z p s d f) = rF z x s d f := (put_past (by decide +kernel)).trans (congrArg _ put_here)
theorem rF_putD : putF "done" (.ref x) (rF z p s d f) = rF z p s x f := (put_past (by decide +kernel)).trans (congrArg _ ((put_past (by decide +kernel)).trans (congrArg _ ((put_past (by decide +kernel)).trans (congrArg _ put_here)))))
theorem rF_putF : putF "frame" (.ref x) (rF z p s d f) = rF z p s d x := (put_past (by decide +kernel)).trans (congrArg _ ((put_past (by decide +kernel)).trans (congrArg _ ((put_past (by decide +kernel)).trans (congrArg _ ((put_past (by decide +kernel)).trans (congrArg _ put_here)))))))
end
/-- a ring with z places stands at a: its lists, its frame; F: the places that it owns -/
def RingAt (CD CR : Addr) (H : Hp) (a : Addr) (z : Nat) (r : Sj50.Ring) (fr : Sj50.Bytes) (F : List Addr) : Prop :=
  ∃ (dx p s d f : Addr) (ps ss ds : List V), F = [a, p, s, d, f] ∧ [a, p, s, d, f].Nodup ∧ H a = some (.ins CR dx (rF z p s d f)) ∧ H p = some (.lst ps) ∧ H s = some (.lst ss) ∧ H d = some (.lst ds) ∧ H f = some (.lst (bV fr)) ∧
    Descs CD H ps r.posted ∧ Descs CD H ss r.seen ∧ Descs CD H ds r.done
/-- what the ring owns behind a change: what it owned, or what is new -/
def New (H : Hp) (F F' : List Addr) : Prop := ∀ b ∈ F', b ∈ F ∨ H b = none
theorem five {a p s d f : Addr} (n : [a, p, s, d, f].Nodup) : (a ≠ p ∧ a ≠ s ∧ a ≠ d ∧ a ≠ f) ∧ (p ≠ s ∧ p ≠ d ∧ p ≠ f) ∧ (s ≠ d ∧ s ≠ f) ∧ d ≠ f := by
  simp only [List.nodup_cons, List.mem_cons, List.not_mem_nil, or_false, not_or, List.nodup_nil, and_true, not_false_eq_true] at n
  obtain ⟨⟨h1, h2, h3, h4⟩, ⟨h5, h6, h7⟩, ⟨h8, h9⟩, h10⟩ := n
  exact ⟨⟨h1, h2, h3, h4⟩, ⟨h5, h6, h7⟩, ⟨h8, h9⟩, h10⟩
theorem five_of {a p s d f : Addr} (h : (a ≠ p ∧ a ≠ s ∧ a ≠ d ∧ a ≠ f) ∧ (p ≠ s ∧ p ≠ d ∧ p ≠ f) ∧ (s ≠ d ∧ s ≠ f) ∧ d ≠ f) : [a, p, s, d, f].Nodup := by
  simp only [List.nodup_cons, List.mem_cons, List.not_mem_nil, or_false, not_or, List.nodup_nil, and_true, not_false_eq_true]
  exact h
theorem RingAt.noD {CD CR : Addr} {H : Hp} {a : Addr} {z : Nat} {r : Sj50.Ring} {fr : Sj50.Bytes} {F : List Addr} (hc : CR ≠ CD) (h : RingAt CD CR H a z r fr F) : NoD CD H F := by
  obtain ⟨dx, p, s, d, f, ps, ss, ds, rfl, _, ha, hp, hs, hd, hf, _⟩ := h
  intro b m dx' fs e
  simp only [List.mem_cons, List.not_mem_nil, or_false] at m
  rcases m with rfl | rfl | rfl | rfl | rfl
  · rw [ha] at e
    injection e with e
    injection e with e
    exact hc e
  · rw [hp] at e; cases e
  · rw [hs] at e; cases e
  · rw [hd] at e; cases e
  · rw [hf] at e; cases e
/-- a change elsewhere leaves the ring -/
theorem RingAt.out {CD CR : Addr} {H H' : Hp} {a : Addr} {z : Nat} {r : Sj50.Ring} {fr : Sj50.Bytes} {F G : List Addr} (h : RingAt CD CR H a z r fr F) (n : NoD CD H G) (k : Out H H' G) (dj : ∀ b ∈ F, b ∉ G) : RingAt CD CR H' a z r fr F := by
  obtain ⟨dx, p, s, d, f, ps, ss, ds, rfl, nd, ha, hp, hs, hd, hf, h1, h2, h3⟩ := h
  have m : ∀ b ∈ [a, p, s, d, f], b ∉ G := dj
  simp only [List.mem_cons, List.not_mem_nil, or_false, forall_eq_or_imp, forall_eq] at m
  obtain ⟨m1, m2, m3, m4, m5⟩ := m
  exact ⟨dx, p, s, d, f, ps, ss, ds, rfl, nd, k _ _ ha m1, k _ _ hp m2, k _ _ hs m3, k _ _ hd m4, k _ _ hf m5, h1.out n k, h2.out n k, h3.out n k⟩
end Rg

namespace Rg
open PySem PySem.Spec PyProof.Rows L2
abbrev sRUsed : Stmt := inClass (top 15) 1
abbrev sRFull : Stmt := inClass (top 15) 2
abbrev sRShow : Stmt := inClass (top 15) 3
abbrev sRFin : Stmt := inClass (top 15) 4
abbrev sRTake : Stmt := inClass (top 15) 5
abbrev sRTakeF : Stmt := inClass (top 15) 6
abbrev sRJoin : Stmt := inClass (top 15) 7
abbrev sREnd : Stmt := inClass (top 15) 8
/-- what the top has written of the class Ring -/
structure RTxt (K : PySem.W.Frag) (mg : Str → Option Value) (CD CR : Addr) : Prop where
  cl : Cls K CR
  nZ : NoAttr K CR "places"
  nP : NoAttr K CR "posted"
  nS : NoAttr K CR "seen"
  nD : NoAttr K CR "done"
  nF : NoAttr K CR "frame"
  len : mg "len" = none
  fb : ∃ t, mg "FRAME_BYTES" = some (.int 4096 t)
  ne : CR ≠ CD
def spUsed (CD CR : Addr) : Sp := fun vs H Q _ => ∃ a z r fr F, vs = [.ref a] ∧ RingAt CD CR H a z r fr F ∧ Q (.int (r.used : Nat)) H
def spFull (CD CR : Addr) : Sp := fun vs H Q _ => ∃ a z r fr F, vs = [.ref a] ∧ RingAt CD CR H a z r fr F ∧ Q (.bl (decide (r.used = z))) H
def spShow (CD CR : Addr) : Sp := fun vs H Q _ => ∃ a z r fr F, vs = [.ref a] ∧ RingAt CD CR H a z r fr F ∧ r.used ≤ 1000 ∧
  ∀ H' F', RingAt CD CR H' a z { r with posted := [], seen := r.seen ++ r.posted } fr F' → Out H H' F → New H F F' → Q (.int (r.posted.length : Nat)) H'
def spFin (CD CR : Addr) : Sp := fun vs H Q _ => ∃ a z r fr F d l, vs = [.ref a] ∧ RingAt CD CR H a z r fr F ∧ r.used ≤ 1000 ∧ r.seen = d :: l ∧
  ∀ H' F', RingAt CD CR H' a z { r with seen := l, done := r.done ++ [d] } fr F' → Out H H' F → New H F F' → Q .non H'
def spTake (CD CR : Addr) : Sp := fun vs H Q _ => ∃ a z r fr F, vs = [.ref a] ∧ RingAt CD CR H a z r fr F ∧
  ∀ H' F' t ds, RingAt CD CR H' a z { r with done := [] } fr F' → Out H H' F → New H F F' → t ∈ F → t ∉ F' → H' t = some (.lst ds) → Descs CD H' ds r.done → Q (.ref t) H'
def spTakeF (CD CR : Addr) : Sp := fun vs H Q _ => ∃ a z r fr F d l, vs = [.ref a] ∧ RingAt CD CR H a z r fr F ∧ r.done = d :: l ∧
  ∀ H' F' v, RingAt CD CR H' a z { r with done := l } fr F' → Out H H' F → New H F F' → DescV CD H' v d → Q v H'
def spJoin (CD CR : Addr) : Sp := fun vs H Q _ => ∃ a z r fr F q bs, vs = [.ref a, .ref q] ∧ RingAt CD CR H a z r fr F ∧ fr.length ≤ 4096 ∧ H q = some (.lst (bV bs)) ∧
  ∀ H' F', RingAt CD CR H' a z r ((fr ++ bs).take 4096) F' → Out H H' F → New H F F' → Q .non H'
def spEnd (CD CR : Addr) : Sp := fun vs H Q _ => ∃ a z r fr F, vs = [.ref a] ∧ RingAt CD CR H a z r fr F ∧
  ∀ H' F' t, RingAt CD CR H' a z r [] F' → Out H H' F → New H F F' → t ∈ F → t ∉ F' → H' t = some (.lst (bV fr)) → Q (.ref t) H'
section
variable {P : Program} {w : World} {K : PySem.W.Frag} {mg : Str → Option Value} {base : Heap} {CD CR : Addr}
theorem scRUsed : FnScope ["self"] ["self"] (defScope sRUsed) := ⟨rfl, rfl, rfl, by decide +kernel, rfl, by decide +kernel, by decide +kernel⟩
theorem ok_used {f : Addr} {fd : FuncData} (F : Fun K "used" "Ring.used" sRUsed f fd) (T : RTxt K mg CD CR) : FnOk P w K mg base CX0 1 f fd ["self"] (spUsed CD CR) := by
  refine F.ok scRUsed (fun vs H Q E h => ?_) (fun cdv A outer s H vs Q E hr h => ?_)
  · obtain ⟨a, z, r, fr, F, rfl, _⟩ := h
    rfl
  · obtain ⟨a, z, r, fr, F, rfl, ⟨dx, p, s, d, f, ps, ss, ds, rfl, nd, ha, hp, hs, hd, hf, h1, h2, h3⟩, k⟩ := h
    refine ⟨_, pss_one (ps_ret (pe_op op_add (pe_op op_add (pe_callB call_len_seq (by rfl) T.len PySem.boot_len (pa_cons (pe_fld (pv 0) rfl) pa_nil)) (pe_callB call_len_seq (by rfl) T.len PySem.boot_len (pa_cons (pe_fld (pv 0) rfl) pa_nil)))
      (pe_callB call_len_seq (by rfl) T.len PySem.boot_len (pa_cons (pe_fld (pv 0) rfl) pa_nil)))), ?_⟩
    refine ⟨_, rfl, a, CR, dx, _, _, rfl, ha, T.cl, T.nP, rF_posted .., p, _, rfl, .inl (SqL.of hp), _, rfl, a, CR, dx, _, _, rfl, ha, T.cl, T.nS, rF_seen .., s, _, rfl, .inl (SqL.of hs), _, _, rfl, rfl,
      _, rfl, a, CR, dx, _, _, rfl, ha, T.cl, T.nD, rF_done .., d, _, rfl, .inl (SqL.of hd), _, _, rfl, rfl, ?_⟩
    have e : ((ps.length : Nat) : Int) + ((ss.length : Nat) : Int) + ((ds.length : Nat) : Int) = ((r.used : Nat) : Int) := by
      rw [Paired.len h1, Paired.len h2, Paired.len h3]
      unfold Sj50.Ring.used
      omega
    show Q (.int (((ps.length : Nat) : Int) + ((ss.length : Nat) : Int) + ((ds.length : Nat) : Int))) H
    rw [e]
    exact k
theorem scRFull : FnScope ["self"] ["self"] (defScope sRFull) := ⟨rfl, rfl, rfl, by decide +kernel, rfl, by decide +kernel, by decide +kernel⟩
theorem ok_full {f fU : Addr} {fd fdU : FuncData} (F : Fun K "is_full" "Ring.is_full" sRFull f fd) (T : RTxt K mg CD CR) (FU : Fun K "used" "Ring.used" sRUsed fU fdU) (bU : Binds K fdU ["self"] []) (mU : Meth K CR "used" fU) : FnOk P w K mg base CX0 2 f fd ["self"] (spFull CD CR) := by
  have GU : FnOk P w K mg base CX0 1 fU fdU ["self"] (spUsed CD CR) := ok_used FU T
  refine F.ok scRFull (fun vs H Q E h => ?_) (fun cdv A outer s H vs Q E hr h => ?_)
  · obtain ⟨a, z, r, fr, F, rfl, _⟩ := h
    rfl
  · obtain ⟨a, z, r, fr, F, rfl, R, k⟩ := h
    obtain ⟨dx, p, s, d, f, ps, ss, ds, rfl, nd, ha, hp, hs, hd, hf, h1, h2, h3⟩ := id R
    refine ⟨_, pss_one (ps_ret (pe_cmpR op_eq (pe_meth0 (pv 0) T.cl mU GU hr bU .nil pass0) (pe_fld (pv 0) rfl) (nomark _))), ?_⟩
    refine ⟨_, rfl, a, dx, _, rfl, ha, rF_no _ _ _ _ _ (by decide +kernel) (by decide +kernel) (by decide +kernel) (by decide +kernel) (by decide +kernel), a, z, r, fr, _, rfl, R, _, rfl, a, CR, dx, _, _, rfl, ha, T.cl, T.nZ, rF_places .., rfl, ?_⟩
    have e : decide (V.int ((r.used : Nat) : Int) = V.int ((z : Nat) : Int)) = decide (r.used = z) := by
      rw [Bool.eq_iff_iff, decide_eq_true_eq, decide_eq_true_eq]
      exact ⟨fun h => by injection h with h; omega, fun h => by rw [h]⟩
    show Q (.bl (decide (V.int ((r.used : Nat) : Int) = V.int ((z : Nat) : Int)))) H
    rw [e]
    exact k
theorem scRShow : FnScope ["self", "shown"] ["self"] (defScope sRShow) := ⟨rfl, rfl, rfl, by decide +kernel, rfl, by decide +kernel, by decide +kernel⟩
theorem ok_show {f : Addr} {fd : FuncData} (F : Fun K "show_posted" "Ring.show_posted" sRShow f fd) (T : RTxt K mg CD CR) : FnOk P w K mg base CX0 1 f fd ["self"] (spShow CD CR) := by
  refine F.ok scRShow (fun vs H Q E h => ?_) (fun cdv A outer s H vs Q E hr h => ?_)
  · obtain ⟨a, z, r, fr, F, rfl, _⟩ := h
    rfl
  · obtain ⟨a, z, r, fr, F, rfl, R, hu, k⟩ := h
    have nD := R.noD T.ne
    obtain ⟨dx, p, s, d, f, ps, ss, ds, rfl, nd, ha, hp, hs, hd, hf, h1, h2, h3⟩ := R
    have hl1 := Paired.len h1
    have hl2 := Paired.len h2
    have hu' : r.posted.length + r.seen.length + r.done.length ≤ 1000 := hu
    refine ⟨_, pss_cons (ps_set (i := 1) scRShow.nd rfl (Or.inl rfl) (pe_callB call_len_seq (by rfl) T.len PySem.boot_len (pa_cons (pe_fld (pv 0) rfl) pa_nil)))
      (pss_cons (ps_expr (pe_bm PySem.F.plainAttrs_list PySem.F.slot_list_extend PySem.F.type_list_extend mt_extend (pe_fld (pv 0) rfl) (pa_cons (pe_fld (pv 0) rfl) pa_nil)))
      (pss_cons (ps_fld (pv 0) (pe_lst pa_nil) rfl) (pss_one (ps_ret (pv 1))))), ?_⟩
    refine ⟨_, rfl, a, CR, dx, _, _, rfl, ha, T.cl, T.nP, rF_posted .., p, _, rfl, .inl (SqL.of hp), ?_⟩
    refine ⟨_, rfl, a, CR, dx, _, _, rfl, ha, T.cl, T.nS, rF_seen .., .inl ⟨rfl, _, SqL.of hs⟩, _, rfl, a, CR, dx, _, _, rfl, ha, T.cl, T.nP, rF_posted .., s, p, _, _, rfl, rfl, hs, hp, Nat.le_trans (show _ ≤ 1000 by omega) (by decide), ?_⟩
    obtain ⟨⟨n1, n2, n3, n4⟩, ⟨n5, n6, n7⟩, ⟨n8, n9⟩, n10⟩ := five nd
    refine ⟨Nat.zero_le _, fun m hm => ?_⟩
    have ms : m ≠ s := fun q => by rw [q, upd_same] at hm; cases hm
    have hm0 : H m = none := by rw [upd_ne ms] at hm; exact hm
    have ma : a ≠ m := ne_of_none ha hm0
    have mp : p ≠ m := ne_of_none hp hm0
    have md : d ≠ m := ne_of_none hd hm0
    have mf : f ≠ m := ne_of_none hf hm0
    refine ⟨_, rfl, a, CR, dx, _, rfl, (by rw [upd_ne ma, upd_ne n2]; exact ha), T.cl, T.nP, (by show 5 < 1000; decide), _, rfl, ?_⟩
    rw [rF_putP]
    have ko : Out H (upd (upd (upd H s (.lst (ss ++ ps))) m (.lst [])) a (.ins CR dx (rF z m s d f))) [a, p, s, d, f] := fun b o e hb => by
      simp only [List.mem_cons, List.not_mem_nil, or_false, not_or] at hb
      rw [upd_ne hb.1, upd_ne (ne_of_none e hm0), upd_ne hb.2.2.1]
      exact e
    have e1 : ((ps.length : Nat) : Int) = ((r.posted.length : Nat) : Int) := by rw [hl1]
    show Q (.int ((ps.length : Nat) : Int)) _
    rw [e1]
    refine k _ [a, m, s, d, f] ⟨dx, m, s, d, f, [], ss ++ ps, ds, rfl, five_of ⟨⟨ma, n2, n3, n4⟩, ⟨ms, md.symm, mf.symm⟩, ⟨n8, n9⟩, n10⟩, upd_same, ?_, ?_, ?_, ?_, .nil, Paired.append (h2.out nD ko) (h1.out nD ko), h3.out nD ko⟩ ko fun b hb => ?_
    · rw [upd_ne ma.symm, upd_same]
    · rw [upd_ne n2.symm, upd_ne ms.symm, upd_same]
    · rw [upd_ne n3.symm, upd_ne md, upd_ne n8.symm]; exact hd
    · rw [upd_ne n4.symm, upd_ne mf, upd_ne n9.symm]; exact hf
    · simp only [List.mem_cons, List.not_mem_nil, or_false] at hb ⊢
      rcases hb with rfl | rfl | rfl | rfl | rfl
      · exact .inl (.inl rfl)
      · exact .inr hm0
      · exact .inl (.inr (.inr (.inl rfl)))
      · exact .inl (.inr (.inr (.inr (.inl rfl))))
      · exact .inl (.inr (.inr (.inr (.inr rfl))))
theorem scRFin : FnScope ["self"] ["self"] (defScope sRFin) := ⟨rfl, rfl, rfl, by decide +kernel, rfl, by decide +kernel, by decide +kernel⟩
theorem ok_fin {f : Addr} {fd : FuncData} (F : Fun K "mark_first_done" "Ring.mark_first_done" sRFin f fd) (T : RTxt K mg CD CR) : FnOk P w K mg base CX0 1 f fd ["self"] (spFin CD CR) := by
  refine F.ok scRFin (fun vs H Q E h => ?_) (fun cdv A outer s H vs Q E hr h => ?_)
  · obtain ⟨a, z, r, fr, F, d, l, rfl, _⟩ := h
    rfl
  · obtain ⟨a, z, r, fr, F, dd, l, rfl, R, hu, es, k⟩ := h
    have nD := R.noD T.ne
    obtain ⟨dx, p, s, d, f, ps, ss, ds, rfl, nd, ha, hp, hs, hd, hf, h1, h2, h3⟩ := R
    have hl3 := Paired.len h3
    have hu' : r.posted.length + r.seen.length + r.done.length ≤ 1000 := hu
    rw [es] at h2
    rcases h2 with _ | ⟨hv, ht⟩
    rename_i v ss'
    obtain ⟨⟨n1, n2, n3, n4⟩, ⟨n5, n6, n7⟩, ⟨n8, n9⟩, n10⟩ := five nd
    refine ⟨_, pss_one (ps_expr (pe_bm PySem.F.plainAttrs_list PySem.F.slot_list_append PySem.F.type_list_append mt_append (pe_fld (pv 0) rfl)
      (pa_cons (pe_bm PySem.F.plainAttrs_list PySem.F.slot_list_pop PySem.F.type_list_pop mt_popAt (pe_fld (pv 0) rfl) (pa_cons pe_int pa_nil)) pa_nil))), ?_⟩
    refine ⟨_, rfl, a, CR, dx, _, _, rfl, ha, T.cl, T.nD, rF_done .., .inl ⟨rfl, _, SqL.of hd⟩, _, rfl, a, CR, dx, _, _, rfl, ha, T.cl, T.nS, rF_seen .., .inl ⟨rfl, _, SqL.of hs⟩, s, _, 0, 0, v, rfl, rfl, hs, by decide, by decide, ?_, rfl, ?_⟩
    · show seqIndex? 0 (v :: ss').length = some 0
      rw [List.length_cons]
      unfold seqIndex?
      simp
    refine ⟨d, _, _, rfl, rfl, (by rw [upd_ne n8.symm]; exact hd), Nat.lt_of_le_of_lt (show ds.length ≤ 1000 by omega) (by decide), ?_⟩
    have ko : Out H (upd (upd H s (.lst ss')) d (.lst (ds ++ [v]))) [a, p, s, d, f] := fun b o e hb => by
      simp only [List.mem_cons, List.not_mem_nil, or_false, not_or] at hb
      rw [upd_ne hb.2.2.2.1, upd_ne hb.2.2.1]
      exact e
    refine k _ [a, p, s, d, f] ⟨dx, p, s, d, f, ps, ss', ds ++ [v], rfl, nd, ?_, ?_, ?_, upd_same, ?_, h1.out nD ko, Descs.out nD ko ht, Paired.append (h3.out nD ko) (.cons (hv.out nD ko) .nil)⟩ ko fun b hb => .inl hb
    · exact Eq.trans (upd_ne n3) (Eq.trans (upd_ne n2) ha)
    · exact Eq.trans (upd_ne n6) (Eq.trans (upd_ne n5) hp)
    · exact Eq.trans (upd_ne n8) upd_same
    · exact Eq.trans (upd_ne n10.symm) (Eq.trans (upd_ne n9.symm) hf)
theorem scRTake : FnScope ["self", "taken"] ["self"] (defScope sRTake) := ⟨rfl, rfl, rfl, by decide +kernel, rfl, by decide +kernel, by decide +kernel⟩
theorem ok_take {f : Addr} {fd : FuncData} (F : Fun K "take_done" "Ring.take_done" sRTake f fd) (T : RTxt K mg CD CR) : FnOk P w K mg base CX0 1 f fd ["self"] (spTake CD CR) := by
  refine F.ok scRTake (fun vs H Q E h => ?_) (fun cdv A outer s H vs Q E hr h => ?_)
  · obtain ⟨a, z, r, fr, F, rfl, _⟩ := h
    rfl
  · obtain ⟨a, z, r, fr, F, rfl, R, k⟩ := h
    have nD := R.noD T.ne
    obtain ⟨dx, p, s, d, f, ps, ss, ds, rfl, nd, ha, hp, hs, hd, hf, h1, h2, h3⟩ := R
    obtain ⟨⟨n1, n2, n3, n4⟩, ⟨n5, n6, n7⟩, ⟨n8, n9⟩, n10⟩ := five nd
    refine ⟨_, pss_cons (ps_set (i := 1) scRTake.nd rfl (Or.inl rfl) (pe_fld (pv 0) rfl)) (pss_cons (ps_fld (pv 0) (pe_lst pa_nil) rfl) (pss_one (ps_ret (pv 1)))), ?_⟩
    refine ⟨_, rfl, a, CR, dx, _, _, rfl, ha, T.cl, T.nD, rF_done .., ?_⟩
    refine ⟨Nat.zero_le _, fun m hm0 => ?_⟩
    have ma : a ≠ m := ne_of_none ha hm0
    have mp : p ≠ m := ne_of_none hp hm0
    have ms : s ≠ m := ne_of_none hs hm0
    have md : d ≠ m := ne_of_none hd hm0
    have mf : f ≠ m := ne_of_none hf hm0
    refine ⟨_, rfl, a, CR, dx, _, rfl, (by rw [upd_ne ma]; exact ha), T.cl, T.nD, (by show 5 < 1000; decide), _, rfl, ?_⟩
    rw [rF_putD]
    have ko : Out H (upd (upd H m (.lst [])) a (.ins CR dx (rF z p s m f))) [a, p, s, d, f] := fun b o e hb => by
      simp only [List.mem_cons, List.not_mem_nil, or_false, not_or] at hb
      rw [upd_ne hb.1, upd_ne (ne_of_none e hm0)]
      exact e
    refine k _ [a, p, s, m, f] d ds ⟨dx, p, s, m, f, ps, ss, [], rfl, five_of ⟨⟨n1, n2, ma, n4⟩, ⟨n5, mp, n7⟩, ⟨ms, n9⟩, mf.symm⟩, upd_same, ?_, ?_, ?_, ?_, h1.out nD ko, h2.out nD ko, .nil⟩ ko (fun b hb => ?_) ?_ ?_ ?_ (h3.out nD ko)
    · exact Eq.trans (upd_ne n1.symm) (Eq.trans (upd_ne mp) hp)
    · exact Eq.trans (upd_ne n2.symm) (Eq.trans (upd_ne ms) hs)
    · exact Eq.trans (upd_ne ma.symm) upd_same
    · exact Eq.trans (upd_ne n4.symm) (Eq.trans (upd_ne mf) hf)
    · simp only [List.mem_cons, List.not_mem_nil, or_false] at hb ⊢
      rcases hb with rfl | rfl | rfl | rfl | rfl
      · exact .inl (.inl rfl)
      · exact .inl (.inr (.inl rfl))
      · exact .inl (.inr (.inr (.inl rfl)))
      · exact .inr hm0
      · exact .inl (.inr (.inr (.inr (.inr rfl))))
    · simp
    · simp only [List.mem_cons, List.not_mem_nil, or_false, not_or]
      exact ⟨n3.symm, n6.symm, n8.symm, md, n10⟩
    · exact Eq.trans (upd_ne n3.symm) (Eq.trans (upd_ne md) hd)
theorem scRTakeF : FnScope ["self"] ["self"] (defScope sRTakeF) := ⟨rfl, rfl, rfl, by decide +kernel, rfl, by decide +kernel, by decide +kernel⟩
theorem ok_takeF {f : Addr} {fd : FuncData} (F : Fun K "take_first_done" "Ring.take_first_done" sRTakeF f fd) (T : RTxt K mg CD CR) : FnOk P w K mg base CX0 1 f fd ["self"] (spTakeF CD CR) := by
  refine F.ok scRTakeF (fun vs H Q E h => ?_) (fun cdv A outer s H vs Q E hr h => ?_)
  · obtain ⟨a, z, r, fr, F, d, l, rfl, _⟩ := h
    rfl
  · obtain ⟨a, z, r, fr, F, dd, l, rfl, R, es, k⟩ := h
    have nD := R.noD T.ne
    obtain ⟨dx, p, s, d, f, ps, ss, ds, rfl, nd, ha, hp, hs, hd, hf, h1, h2, h3⟩ := R
    rw [es] at h3
    rcases h3 with _ | ⟨hv, ht⟩
    rename_i v ds'
    obtain ⟨⟨n1, n2, n3, n4⟩, ⟨n5, n6, n7⟩, ⟨n8, n9⟩, n10⟩ := five nd
    refine ⟨_, pss_one (ps_ret (pe_bm PySem.F.plainAttrs_list PySem.F.slot_list_pop PySem.F.type_list_pop mt_popAt (pe_fld (pv 0) rfl) (pa_cons pe_int pa_nil))), ?_⟩
    refine ⟨_, rfl, a, CR, dx, _, _, rfl, ha, T.cl, T.nD, rF_done .., .inl ⟨rfl, _, SqL.of hd⟩, d, _, 0, 0, v, rfl, rfl, hd, by decide, by decide, ?_, rfl, ?_⟩
    · show seqIndex? 0 (v :: ds').length = some 0
      rw [List.length_cons]
      unfold seqIndex?
      simp
    have ko : Out H (upd H d (.lst ds')) [a, p, s, d, f] := fun b o e hb => by
      simp only [List.mem_cons, List.not_mem_nil, or_false, not_or] at hb
      rw [upd_ne hb.2.2.2.1]
      exact e
    refine k _ [a, p, s, d, f] v ⟨dx, p, s, d, f, ps, ss, ds', rfl, nd, ?_, ?_, ?_, upd_same, ?_, h1.out nD ko, h2.out nD ko, Descs.out nD ko ht⟩ ko (fun b hb => .inl hb) (hv.out nD ko)
    · exact Eq.trans (upd_ne n3) ha
    · exact Eq.trans (upd_ne n6) hp
    · exact Eq.trans (upd_ne n8) hs
    · exact Eq.trans (upd_ne n10.symm) hf
theorem scREnd : FnScope ["self", "ended"] ["self"] (defScope sREnd) := ⟨rfl, rfl, rfl, by decide +kernel, rfl, by decide +kernel, by decide +kernel⟩
theorem ok_end {f : Addr} {fd : FuncData} (F : Fun K "end_frame" "Ring.end_frame" sREnd f fd) (T : RTxt K mg CD CR) : FnOk P w K mg base CX0 1 f fd ["self"] (spEnd CD CR) := by
  refine F.ok scREnd (fun vs H Q E h => ?_) (fun cdv A outer s H vs Q E hr h => ?_)
  · obtain ⟨a, z, r, fr, F, rfl, _⟩ := h
    rfl
  · obtain ⟨a, z, r, fr, F, rfl, R, k⟩ := h
    have nD := R.noD T.ne
    obtain ⟨dx, p, s, d, f, ps, ss, ds, rfl, nd, ha, hp, hs, hd, hf, h1, h2, h3⟩ := R
    obtain ⟨⟨n1, n2, n3, n4⟩, ⟨n5, n6, n7⟩, ⟨n8, n9⟩, n10⟩ := five nd
    refine ⟨_, pss_cons (ps_set (i := 1) scREnd.nd rfl (Or.inl rfl) (pe_fld (pv 0) rfl)) (pss_cons (ps_fld (pv 0) (pe_lst pa_nil) rfl) (pss_one (ps_ret (pv 1)))), ?_⟩
    refine ⟨_, rfl, a, CR, dx, _, _, rfl, ha, T.cl, T.nF, rF_frame .., ?_⟩
    refine ⟨Nat.zero_le _, fun m hm0 => ?_⟩
    have ma : a ≠ m := ne_of_none ha hm0
    have mp : p ≠ m := ne_of_none hp hm0
    have ms : s ≠ m := ne_of_none hs hm0
    have md : d ≠ m := ne_of_none hd hm0
    have mf : f ≠ m := ne_of_none hf hm0
    refine ⟨_, rfl, a, CR, dx, _, rfl, (by rw [upd_ne ma]; exact ha), T.cl, T.nF, (by show 5 < 1000; decide), _, rfl, ?_⟩
    rw [rF_putF]
    have ko : Out H (upd (upd H m (.lst [])) a (.ins CR dx (rF z p s d m))) [a, p, s, d, f] := fun b o e hb => by
      simp only [List.mem_cons, List.not_mem_nil, or_false, not_or] at hb
      rw [upd_ne hb.1, upd_ne (ne_of_none e hm0)]
      exact e
    refine k _ [a, p, s, d, m] f ⟨dx, p, s, d, m, ps, ss, ds, rfl, five_of ⟨⟨n1, n2, n3, ma⟩, ⟨n5, n6, mp⟩, ⟨n8, ms⟩, md⟩, upd_same, ?_, ?_, ?_, ?_, h1.out nD ko, h2.out nD ko, h3.out nD ko⟩ ko (fun b hb => ?_) ?_ ?_ ?_
    · exact Eq.trans (upd_ne n1.symm) (Eq.trans (upd_ne mp) hp)
    · exact Eq.trans (upd_ne n2.symm) (Eq.trans (upd_ne ms) hs)
    · exact Eq.trans (upd_ne n3.symm) (Eq.trans (upd_ne md) hd)
    · exact Eq.trans (upd_ne ma.symm) upd_same
    · simp only [List.mem_cons, List.not_mem_nil, or_false] at hb ⊢
      rcases hb with rfl | rfl | rfl | rfl | rfl
      · exact .inl (.inl rfl)
      · exact .inl (.inr (.inl rfl))
      · exact .inl (.inr (.inr (.inl rfl)))
      · exact .inl (.inr (.inr (.inr (.inl rfl))))
      · exact .inr hm0
    · simp
    · simp only [List.mem_cons, List.not_mem_nil, or_false, not_or]
      exact ⟨n4.symm, n7.symm, n9.symm, n10.symm, mf⟩
    · exact Eq.trans (upd_ne n4.symm) (Eq.trans (upd_ne mf) hf)
theorem scRJoin : FnScope ["self", "data", "room"] ["self", "data"] (defScope sRJoin) := ⟨rfl, rfl, rfl, by decide +kernel, rfl, by decide +kernel, by decide +kernel⟩
theorem join_eq {fr bs : Sj50.Bytes} (h : fr.length ≤ 4096) : (fr ++ bs).take 4096 = fr ++ bs.take (4096 - fr.length) := by
  rw [List.take_append, List.take_of_length_le h]
theorem ok_join {f : Addr} {fd : FuncData} (F : Fun K "join_frame" "Ring.join_frame" sRJoin f fd) (T : RTxt K mg CD CR) : FnOk P w K mg base CX0 1 f fd ["self", "data"] (spJoin CD CR) := by
  refine F.ok scRJoin (fun vs H Q E h => ?_) (fun cdv A outer s H vs Q E hr h => ?_)
  · obtain ⟨a, z, r, fr, F, q, bs, rfl, _⟩ := h
    rfl
  · obtain ⟨a, z, r, fr, F, q, bs, rfl, R, hl, hq, k⟩ := h
    have nD := R.noD T.ne
    obtain ⟨dx, p, s, d, f, ps, ss, ds, rfl, nd, ha, hp, hs, hd, hf, h1, h2, h3⟩ := R
    obtain ⟨⟨n1, n2, n3, n4⟩, ⟨n5, n6, n7⟩, ⟨n8, n9⟩, n10⟩ := five nd
    obtain ⟨tf, hfb⟩ := T.fb
    refine ⟨_, pss_cons (ps_set (i := 2) scRJoin.nd rfl (Or.inl rfl) (pe_op op_sub (pe_glob (v := .int 4096) rfl hfb ⟨_, rfl⟩) (pe_callB call_len_seq (by rfl) T.len PySem.boot_len (pa_cons (pe_fld (pv 0) rfl) pa_nil))))
      (pss_one (ps_expr (pe_bm PySem.F.plainAttrs_list PySem.F.slot_list_extend PySem.F.type_list_extend mt_extend (pe_fld (pv 0) rfl) (pa_cons (pe_slice sl_list (pv 1) po_none (po_some (pv 2))) pa_nil)))), ?_⟩
    refine ⟨_, rfl, a, CR, dx, _, _, rfl, ha, T.cl, T.nF, rF_frame .., f, _, rfl, .inl (SqL.of hf), _, _, rfl, rfl, ?_⟩
    refine ⟨_, rfl, a, CR, dx, _, _, rfl, ha, T.cl, T.nF, rF_frame .., .inl ⟨rfl, _, SqL.of hf⟩, ?_⟩
    refine ⟨_, rfl, _, rfl, _, rfl, q, _, rfl, SqL.of hq, fun m hm0 => ?_⟩
    have ma : a ≠ m := ne_of_none ha hm0
    have mp : p ≠ m := ne_of_none hp hm0
    have ms : s ≠ m := ne_of_none hs hm0
    have md : d ≠ m := ne_of_none hd hm0
    have mf : f ≠ m := ne_of_none hf hm0
    have ec : cutV (bV bs) none (some ((4096 : Int) - ((bV fr).length : Int))) = bV (bs.take (4096 - fr.length)) := by
      rw [bV_len, cut_to (by omega), bV_take]
      congr 1
      omega
    show rExtend _ _ _ _
    rw [ec]
    refine ⟨f, m, _, _, rfl, rfl, Eq.trans (upd_ne mf) hf, upd_same, ?_, ?_⟩
    · rw [bV_len, bV_len, List.length_take]
      exact Nat.le_trans (show _ ≤ 4096 by omega) (by decide)
    have ko : Out H (upd (upd H m (.lst (bV (bs.take (4096 - fr.length))))) f (.lst (bV fr ++ bV (bs.take (4096 - fr.length))))) [a, p, s, d, f] := fun b o e hb => by
      simp only [List.mem_cons, List.not_mem_nil, or_false, not_or] at hb
      rw [upd_ne hb.2.2.2.2, upd_ne (ne_of_none e hm0)]
      exact e
    rw [join_eq hl] at k
    refine k _ [a, p, s, d, f] ⟨dx, p, s, d, f, ps, ss, ds, rfl, nd, ?_, ?_, ?_, ?_, ?_, h1.out nD ko, h2.out nD ko, h3.out nD ko⟩ ko fun b hb => .inl hb
    · exact Eq.trans (upd_ne n4) (Eq.trans (upd_ne ma) ha)
    · exact Eq.trans (upd_ne n7) (Eq.trans (upd_ne mp) hp)
    · exact Eq.trans (upd_ne n9) (Eq.trans (upd_ne ms) hs)
    · exact Eq.trans (upd_ne n10) (Eq.trans (upd_ne md) hd)
    · rw [upd_same, bV_app]
end
end Rg

/-! How a card lies in the heap: who owns which place; what a change of one part leaves. -/
namespace Rg
open PySem PySem.Spec PyProof.Rows L2
def upd1 {α : Type} (f : Nat → α) (i : Nat) (x : α) : Nat → α := fun j => if j = i then x else f j
theorem upd1_same {α : Type} {f : Nat → α} {i : Nat} {x : α} : upd1 f i x i = x := if_pos rfl
theorem upd1_ne {α : Type} {f : Nat → α} {i j : Nat} {x : α} (h : j ≠ i) : upd1 f i x j = f j := if_neg h
/-- the card as the program keeps it: five rings, each with its frame -/
structure M where
  size : Nat
  bufs : List Sj50.Bytes
  mine : List Bool
  ring : Nat → Sj50.Ring
  part : Nat → Sj50.Bytes
  out : List Sj50.Bytes
  many : Nat
  late : Nat
  turn : Nat
  sent : Nat
  since : Nat
  come : Nat
  drop : Nat
  ticks : Nat
/-- the fields of a card, in the order in which they are set -/
def cN : List Str := ["cause", "buffers", "with_machine", "rings", "turn", "frames_out", "frames_sent", "frames_come", "frames_dropped"]
/-- the fields of a cause -/
def uN : List Str := ["many", "late", "done_since", "ticks_waited"]
def uG (m l s t : Nat) : List (Str × V) := uN.zip [.int (m : Int), .int (l : Int), .int (s : Int), .int (t : Int)]
def uF (m : M) : List (Str × V) := uG m.many m.late m.since m.ticks
def cV (m : M) (ca bl ml rl ol : Addr) : List V := [.ref ca, .ref bl, .ref ml, .ref rl, .int (m.turn : Int), .ref ol, .int (m.sent : Int), .int (m.come : Int), .int (m.drop : Int)]
def cF (m : M) (ca bl ml rl ol : Addr) : List (Str × V) := cN.zip (cV m ca bl ml rl ol)
/-- the i-th of these names is k, and none ahead of it -/
def nameAt (ks : List Str) (i : Nat) (k : Str) : Bool := match ks, i with
  | [], _ => false
  | x :: _, 0 => x == k
  | x :: r, i + 1 => !(x == k) && nameAt r i k
theorem lk_zip : ∀ {ks : List Str} {vs : List V} {i : Nat} {k : Str} {v : V}, nameAt ks i k = true → vs[i]? = some v → (ks.zip vs).lookup k = some v
  | [], _, _, _, _, h, _ => by unfold nameAt at h; cases h
  | _ :: _, [], _, _, _, _, h => by simp at h
  | x :: r, y :: vs, 0, k, v, h, e => by
    have h : (x == k) = true := h
    have := eq_of_beq h
    subst this
    simp at e
    subst e
    exact lk_here
  | x :: r, y :: vs, i + 1, k, v, h, e => by
    have h : (!(x == k) && nameAt r i k) = true := h
    rw [Bool.and_eq_true] at h
    have n : (k == x) = false := by
      have h1 : (x == k) = false := by
        cases q : (x == k) with
        | false => rfl
        | true => rw [q] at h; cases h.1
      rw [beq_eq_false_iff_ne] at h1 ⊢
      exact fun q => h1 q.symm
    exact (lk_past n).trans (lk_zip h.2 (by simpa using e))
theorem put_zip : ∀ {ks : List Str} {vs : List V} {i : Nat} {k : Str} {v : V}, nameAt ks i k = true → i < vs.length → putF k v (ks.zip vs) = ks.zip (vs.set i v)
  | [], _, _, _, _, h, _ => by unfold nameAt at h; cases h
  | _ :: _, [], _, _, _, _, h => by simp at h
  | x :: r, y :: vs, 0, k, v, h, e => by
    have h : (x == k) = true := h
    have := eq_of_beq h
    subst this
    exact put_here
  | x :: r, y :: vs, i + 1, k, v, h, e => by
    have h : (!(x == k) && nameAt r i k) = true := h
    rw [Bool.and_eq_true] at h
    have n : ¬ x = k := by
      have h1 : (x == k) = false := by
        cases q : (x == k) with
        | false => rfl
        | true => rw [q] at h; cases h.1
      exact beq_eq_false_iff_ne.mp h1
    exact (put_past n).trans (congrArg _ (put_zip h.2 (by simpa using e)))
theorem lk_zipNo : ∀ {ks : List Str} {vs : List V} {k : Str}, ks.all (fun x => !(k == x)) = true → (ks.zip vs).lookup k = none
  | [], _, _, _ => by simp
  | _ :: _, [], _, _ => by simp
  | x :: r, y :: vs, k, h => by
    rw [List.all_cons, Bool.and_eq_true] at h
    have n : (k == x) = false := by
      cases q : (k == x) with
      | false => rfl
      | true => rw [q] at h; cases h.1
    exact (lk_past n).trans (lk_zipNo h.2)
abbrev Owns := Addr → Option Nat
def Cell (CD : Addr) : HO → Prop
  | .lst _ => True
  | .ins C _ _ => C ≠ CD
  | _ => False
theorem Cell.no {CD : Addr} {o : HO} {dx : Addr} {fs : List (Str × V)} (h : Cell CD o) (e : o = .ins CD dx fs) : False := by
  subst e
  exact h rfl
structure Lay where
  dx : Addr
  ca : Addr
  cdx : Addr
  bl : Addr
  ml : Addr
  rl : Addr
  ol : Addr
  bas : List Addr
  oas : List Addr
  ra : Nat → Addr
  Fr : Nat → List Addr
abbrev BytesAt (H : Hp) (a : Addr) (b : Sj50.Bytes) : Prop := H a = some (.lst (bV b))
structure CardL (CD CR CC CU : Addr) (H : Hp) (c : Addr) (m : M) (own : Owns) (L : Lay) : Prop where
  oc : own c = some 0
  obl : own L.bl = some 1
  oml : own L.ml = some 2
  orl : own L.rl = some 3
  ool : own L.ol = some 4
  oca : own L.ca = some 7
  oba : ∀ a ∈ L.bas, own a = some 5
  ooa : ∀ a ∈ L.oas, own a = some 6
  oFr : ∀ i, i < 5 → ∀ a ∈ L.Fr i, own a = some (10 + i)
  cells : ∀ b t, own b = some t → ∃ o, H b = some o ∧ Cell CD o
  hc : H c = some (.ins CC L.dx (cF m L.ca L.bl L.ml L.rl L.ol))
  hca : H L.ca = some (.ins CU L.cdx (uF m))
  hbl : H L.bl = some (.lst (L.bas.map V.ref))
  hba : Paired (BytesAt H) L.bas m.bufs
  hml : H L.ml = some (.lst (m.mine.map V.bl))
  hrl : H L.rl = some (.lst ((List.range 5).map fun i => V.ref (L.ra i)))
  hol : H L.ol = some (.lst (L.oas.map V.ref))
  hoa : Paired (BytesAt H) L.oas m.out
  hr : ∀ i, i < 5 → RingAt CD CR H (L.ra i) m.size (m.ring i) (m.part i) (L.Fr i)
/-- a card stands at c; own: the places that it owns -/
def CardAt (CD CR CC CU : Addr) (H : Hp) (c : Addr) (m : M) (own : Owns) : Prop := ∃ L, CardL CD CR CC CU H c m own L
/-- what the card doesn't own stands -/
def COut (H H' : Hp) (own : Owns) : Prop := ∀ b o, H b = some o → own b = none → H' b = some o
/-- what it owns anew was nobody's -/
def CNew (H : Hp) (own own' : Owns) : Prop := ∀ b, own b = none → own' b ≠ none → H b = none
theorem COut.refl (H : Hp) (own : Owns) : COut H H own := fun _ _ h _ => h
theorem CNew.refl (H : Hp) (own : Owns) : CNew H own own := fun _ h h' => absurd h h'
theorem COut.trans {H H1 H2 : Hp} {own own1 : Owns} (a : COut H H1 own) (n : CNew H own own1) (b : COut H1 H2 own1) : COut H H2 own := fun x o h z => b x o (a x o h z) (by
  cases q : own1 x with
  | none => rfl
  | some t =>
    have := n x z (by rw [q]; exact fun y => nomatch y)
    rw [this] at h
    cases h)
theorem CNew.trans {H H1 : Hp} {own own1 own2 : Owns} (a : COut H H1 own) (n : CNew H own own1) (b : CNew H1 own1 own2) : CNew H own own2 := fun x z y => by
  cases q : own1 x with
  | none =>
    have h1 := b x q y
    cases e : H x with
    | none => rfl
    | some o =>
      rw [a x o e z] at h1
      cases h1
  | some t => exact n x z (by rw [q]; exact fun y => nomatch y)
/-- the places of ring i are others now: F' in F's place -/
def ownR (own : Owns) (i : Nat) (F F' : List Addr) : Owns := fun b => if b ∈ F' then some (10 + i) else if b ∈ F then none else own b
section
variable {CD CR CC CU : Addr} {H H' : Hp} {c : Addr} {m : M} {own : Owns} {L : Lay}
theorem CardL.live (h : CardL CD CR CC CU H c m own L) {b : Addr} {t : Nat} (e : own b = some t) : H b ≠ none := by
  obtain ⟨o, q, _⟩ := h.cells b t e
  rw [q]
  exact fun y => nomatch y
/-- a place with another tag stays so -/
theorem CardL.ownR_keep (h : CardL CD CR CC CU H c m own L) {i : Nat} {F' : List Addr} (hi : i < 5) (kn : New H (L.Fr i) F') {b : Addr} {t : Nat} (e : own b = some t) (ht : t ≠ 10 + i) : ownR own i (L.Fr i) F' b = some t := by
  have n1 : b ∉ L.Fr i := fun q => by
    have := h.oFr i hi b q
    rw [e] at this
    exact ht (Option.some.inj this)
  have n2 : b ∉ F' := fun q => by
    rcases kn b q with q | q
    · exact n1 q
    · exact h.live e q
  unfold ownR
  rw [if_neg n2, if_neg n1]
  exact e
theorem CardL.keep (h : CardL CD CR CC CU H c m own L) {i : Nat} (hi : i < 5) (ko : Out H H' (L.Fr i)) {b : Addr} {t : Nat} {o : HO} (e : own b = some t) (ht : t ≠ 10 + i) (ho : H b = some o) : H' b = some o :=
  ko b o ho fun q => by
    have := h.oFr i hi b q
    rw [e] at this
    exact ht (Option.some.inj this)
theorem Paired.memMono {α β : Type} {R S : α → β → Prop} : ∀ {xs : List α} {ys : List β}, (∀ a ∈ xs, ∀ b, R a b → S a b) → Paired R xs ys → Paired S xs ys
  | _, _, _, .nil => .nil
  | _, _, h, .cons r t => .cons (h _ (List.mem_cons_self ..) _ r) (Paired.memMono (fun a m => h a (List.mem_cons_of_mem _ m)) t)
/-- a ring has changed -/
theorem CardL.ring (h : CardL CD CR CC CU H c m own L) (hne : CR ≠ CD) {i : Nat} {r : Sj50.Ring} {fr : Sj50.Bytes} {F' : List Addr} (hi : i < 5) (R : RingAt CD CR H' (L.ra i) m.size r fr F') (ko : Out H H' (L.Fr i)) (kn : New H (L.Fr i) F') :
    CardL CD CR CC CU H' c { m with ring := upd1 m.ring i r, part := upd1 m.part i fr } (ownR own i (L.Fr i) F') { L with Fr := upd1 L.Fr i F' } ∧ COut H H' own ∧ CNew H own (ownR own i (L.Fr i) F') := by
  have Ri := h.hr i hi
  have nD := Ri.noD hne
  refine ⟨⟨h.ownR_keep hi kn h.oc (by omega), h.ownR_keep hi kn h.obl (by omega), h.ownR_keep hi kn h.oml (by omega), h.ownR_keep hi kn h.orl (by omega), h.ownR_keep hi kn h.ool (by omega), h.ownR_keep hi kn h.oca (by omega),
    fun a q => h.ownR_keep hi kn (h.oba a q) (by omega), fun a q => h.ownR_keep hi kn (h.ooa a q) (by omega), fun j hj a q => ?_, fun b t e => ?_,
    h.keep hi ko h.oc (by omega) h.hc, h.keep hi ko h.oca (by omega) h.hca, h.keep hi ko h.obl (by omega) h.hbl, Paired.memMono (fun a q b z => h.keep hi ko (h.oba a q) (by omega) z) h.hba, h.keep hi ko h.oml (by omega) h.hml, h.keep hi ko h.orl (by omega) h.hrl,
    h.keep hi ko h.ool (by omega) h.hol, Paired.memMono (fun a q b z => h.keep hi ko (h.ooa a q) (by omega) z) h.hoa, fun j hj => ?_⟩, fun b o e z => ?_, fun b z y => ?_⟩
  · by_cases e : j = i
    · subst e
      have q' : a ∈ F' := by
        have : a ∈ upd1 L.Fr j F' j := q
        rw [upd1_same] at this
        exact this
      unfold ownR
      rw [if_pos q']
    · have q' : a ∈ L.Fr j := by
        have : a ∈ upd1 L.Fr i F' j := q
        rw [upd1_ne e] at this
        exact this
      exact h.ownR_keep hi kn (h.oFr j hj a q') (by omega)
  · unfold ownR at e
    by_cases c1 : b ∈ F'
    · obtain ⟨dx, p, s, d, f, ps, ss, ds, rfl, _, ha, hp, hs, hd, hf, _⟩ := R
      simp only [List.mem_cons, List.not_mem_nil, or_false] at c1
      rcases c1 with rfl | rfl | rfl | rfl | rfl
      · exact ⟨_, ha, hne⟩
      · exact ⟨_, hp, trivial⟩
      · exact ⟨_, hs, trivial⟩
      · exact ⟨_, hd, trivial⟩
      · exact ⟨_, hf, trivial⟩
    · rw [if_neg c1] at e
      by_cases c2 : b ∈ L.Fr i
      · rw [if_pos c2] at e
        cases e
      · rw [if_neg c2] at e
        obtain ⟨o, ho, hc⟩ := h.cells b t e
        exact ⟨o, ko b o ho c2, hc⟩
  · by_cases e : j = i
    · subst e
      show RingAt CD CR H' (L.ra j) m.size (upd1 m.ring j r j) (upd1 m.part j fr j) (upd1 L.Fr j F' j)
      rw [upd1_same, upd1_same, upd1_same]
      exact R
    · show RingAt CD CR H' (L.ra j) m.size (upd1 m.ring i r j) (upd1 m.part i fr j) (upd1 L.Fr i F' j)
      rw [upd1_ne e, upd1_ne e, upd1_ne e]
      refine (h.hr j hj).out nD ko fun b q z => ?_
      have h1 := h.oFr j hj b q
      rw [h.oFr i hi b z] at h1
      have := Option.some.inj h1
      omega
  · refine ko b o e fun q => ?_
    rw [h.oFr i hi b q] at z
    cases z
  · unfold ownR at y
    by_cases c1 : b ∈ F'
    · rcases kn b c1 with q | q
      · rw [h.oFr i hi b q] at z
        cases z
      · exact q
    · rw [if_neg c1] at y
      by_cases c2 : b ∈ L.Fr i
      · rw [if_pos c2] at y
        exact absurd rfl y
      · rw [if_neg c2] at y
        exact absurd z y
/-- one owned place below tag 5 is written anew: the others -/
theorem CardL.other (h : CardL CD CR CC CU H c m own L) {x b : Addr} {t u : Nat} {o : HO} (hx : own x = some t) (hb : own b = some u) (n : u ≠ t) : upd H x o b = H b := upd_ne fun e => by
  rw [e, hx] at hb
  exact n (Option.some.inj hb).symm
theorem CardL.rings (h : CardL CD CR CC CU H c m own L) {x : Addr} {t : Nat} {o : HO} (hx : own x = some t) (ht : t < 10) : ∀ i, i < 5 → RingAt CD CR (upd H x o) (L.ra i) m.size (m.ring i) (m.part i) (L.Fr i) := fun i hi => by
  refine (h.hr i hi).out (G := [x]) (fun b q dx fs e => ?_) (fun b o e q => ?_) fun b q z => ?_
  · rw [List.mem_singleton.mp q] at e
    obtain ⟨o, ho, hc⟩ := h.cells x t hx
    rw [ho] at e
    exact hc.no (Option.some.inj e)
  · rw [upd_ne fun z => q (List.mem_singleton.mpr z)]
    exact e
  · have h1 := h.oFr i hi b q
    rw [List.mem_singleton.mp z, hx] at h1
    have := Option.some.inj h1
    omega
theorem CardL.cellsU (h : CardL CD CR CC CU H c m own L) {x : Addr} {o : HO} (ho : Cell CD o) : ∀ b t, own b = some t → ∃ o', upd H x o b = some o' ∧ Cell CD o' := fun b t e => by
  by_cases z : b = x
  · rw [z]
    exact ⟨o, upd_same, ho⟩
  · rw [upd_ne z]
    exact h.cells b t e
theorem CardL.outU (h : CardL CD CR CC CU H c m own L) {x : Addr} {t : Nat} {o : HO} (hx : own x = some t) : COut H (upd H x o) own := fun b o' e z => by
  rw [upd_ne fun q => by rw [q, hx] at z; cases z]
  exact e
/-- the card's own numbers -/
theorem CardL.nums (h : CardL CD CR CC CU H c m own L) {m' : M} (hne : CC ≠ CD) (e1 : m'.size = m.size) (e2 : m'.bufs = m.bufs) (e3 : m'.mine = m.mine) (e4 : m'.ring = m.ring) (e5 : m'.part = m.part) (e6 : m'.out = m.out) (e7 : uF m' = uF m) :
    CardL CD CR CC CU (upd H c (.ins CC L.dx (cF m' L.ca L.bl L.ml L.rl L.ol))) c m' own L := by
  refine ⟨h.oc, h.obl, h.oml, h.orl, h.ool, h.oca, h.oba, h.ooa, h.oFr, h.cellsU hne, upd_same, ?_, ?_, ?_, ?_, ?_, ?_, ?_, ?_⟩
  · rw [h.other h.oc h.oca (by decide), e7]; exact h.hca
  · rw [h.other h.oc h.obl (by decide)]; exact h.hbl
  · rw [e2]; exact Paired.memMono (fun a q b z => (h.other h.oc (h.oba a q) (by decide)).trans z) h.hba
  · rw [h.other h.oc h.oml (by decide), e3]; exact h.hml
  · rw [h.other h.oc h.orl (by decide)]; exact h.hrl
  · rw [h.other h.oc h.ool (by decide)]; exact h.hol
  · rw [e6]; exact Paired.memMono (fun a q b z => (h.other h.oc (h.ooa a q) (by decide)).trans z) h.hoa
  · rw [e1, e4, e5]; exact h.rings h.oc (by decide)
/-- the cause's numbers -/
theorem CardL.causeU (h : CardL CD CR CC CU H c m own L) {m' : M} (hne : CU ≠ CD) (e1 : m'.size = m.size) (e2 : m'.bufs = m.bufs) (e3 : m'.mine = m.mine) (e4 : m'.ring = m.ring) (e5 : m'.part = m.part) (e6 : m'.out = m.out) (e7 : ∀ a b d e f, cF m' a b d e f = cF m a b d e f) :
    CardL CD CR CC CU (upd H L.ca (.ins CU L.cdx (uF m'))) c m' own L := by
  refine ⟨h.oc, h.obl, h.oml, h.orl, h.ool, h.oca, h.oba, h.ooa, h.oFr, h.cellsU hne, ?_, upd_same, ?_, ?_, ?_, ?_, ?_, ?_, ?_⟩
  · rw [h.other h.oca h.oc (by decide), e7]; exact h.hc
  · rw [h.other h.oca h.obl (by decide)]; exact h.hbl
  · rw [e2]; exact Paired.memMono (fun a q b z => (h.other h.oca (h.oba a q) (by decide)).trans z) h.hba
  · rw [h.other h.oca h.oml (by decide), e3]; exact h.hml
  · rw [h.other h.oca h.orl (by decide)]; exact h.hrl
  · rw [h.other h.oca h.ool (by decide)]; exact h.hol
  · rw [e6]; exact Paired.memMono (fun a q b z => (h.other h.oca (h.ooa a q) (by decide)).trans z) h.hoa
  · rw [e1, e4, e5]; exact h.rings h.oca (by decide)
/-- whose the buffers are -/
theorem CardL.mineU (h : CardL CD CR CC CU H c m own L) {l : List Bool} : CardL CD CR CC CU (upd H L.ml (.lst (l.map V.bl))) c { m with mine := l } own L := by
  refine ⟨h.oc, h.obl, h.oml, h.orl, h.ool, h.oca, h.oba, h.ooa, h.oFr, h.cellsU trivial, ?_, ?_, ?_, ?_, upd_same, ?_, ?_, ?_, ?_⟩
  · rw [h.other h.oml h.oc (by decide)]; exact h.hc
  · rw [h.other h.oml h.oca (by decide)]; exact h.hca
  · rw [h.other h.oml h.obl (by decide)]; exact h.hbl
  · exact Paired.memMono (fun a q b z => (h.other h.oml (h.oba a q) (by decide)).trans z) h.hba
  · rw [h.other h.oml h.orl (by decide)]; exact h.hrl
  · rw [h.other h.oml h.ool (by decide)]; exact h.hol
  · exact Paired.memMono (fun a q b z => (h.other h.oml (h.ooa a q) (by decide)).trans z) h.hoa
  · exact h.rings h.oml (by decide)
end
end Rg

namespace Rg
open PySem PySem.Spec PyProof.Rows L2
def own1 (own : Owns) (p : Addr) (t : Nat) : Owns := fun b => if b = p then some t else own b
section
variable {CD CR CC CU : Addr} {H H' : Hp} {c : Addr} {m : M} {own : Owns} {L : Lay}
theorem own1_same {p : Addr} {t : Nat} : own1 own p t p = some t := if_pos rfl
theorem own1_keep {p b : Addr} {t u : Nat} (hp : own p = none) (h : own b = some u) : own1 own p t b = some u := by
  unfold own1
  rw [if_neg fun e => by rw [e, hp] at h; cases h]
  exact h
/-- new things leave the card as it is -/
theorem CardL.same (h : CardL CD CR CC CU H c m own L) (s : Same H H') : CardL CD CR CC CU H' c m own L :=
  ⟨h.oc, h.obl, h.oml, h.orl, h.ool, h.oca, h.oba, h.ooa, h.oFr, fun b t e => by
    obtain ⟨o, ho, q⟩ := h.cells b t e
    exact ⟨o, s _ _ ho, q⟩, s _ _ h.hc, s _ _ h.hca, s _ _ h.hbl, Paired.mono (fun a b z => s _ _ z) h.hba, s _ _ h.hml, s _ _ h.hrl, s _ _ h.hol, Paired.mono (fun a b z => s _ _ z) h.hoa,
    fun i hi => (h.hr i hi).out (G := []) (fun b q => nomatch q) (fun b o e _ => s b o e) (fun b _ q => nomatch q)⟩
theorem Same.upd {p : Addr} {o : HO} (hp : H p = none) : Same H (upd H p o) := fun b o' e => by
  rw [upd_ne (ne_of_none e hp)]
  exact e
theorem CardL.unowned (h : CardL CD CR CC CU H c m own L) {p : Addr} (hp : H p = none) : own p = none := by
  cases e : own p with
  | none => rfl
  | some t => exact absurd hp (h.live e)
/-- a place that was nobody's among the card's -/
theorem CardL.adopt (h : CardL CD CR CC CU H c m own L) {p : Addr} {t : Nat} {o : HO} (hp : own p = none) (ho : H p = some o) (hc : Cell CD o) : CardL CD CR CC CU H c m (own1 own p t) L :=
  ⟨own1_keep hp h.oc, own1_keep hp h.obl, own1_keep hp h.oml, own1_keep hp h.orl, own1_keep hp h.ool, own1_keep hp h.oca, fun a q => own1_keep hp (h.oba a q), fun a q => own1_keep hp (h.ooa a q), fun i hi a q => own1_keep hp (h.oFr i hi a q),
    fun b u e => by
      unfold own1 at e
      by_cases z : b = p
      · rw [z]
        exact ⟨o, ho, hc⟩
      · rw [if_neg z] at e
        exact h.cells b u e, h.hc, h.hca, h.hbl, h.hba, h.hml, h.hrl, h.hol, h.hoa, h.hr⟩
theorem Paired.set {α β : Type} {R : α → β → Prop} {x : α} {y : β} (r : R x y) : ∀ {xs : List α} {ys : List β} (i : Nat), Paired R xs ys → Paired R (xs.set i x) (ys.set i y)
  | _, _, _, .nil => .nil
  | _, _, 0, .cons _ t => .cons r t
  | _, _, i + 1, .cons q t => .cons q (Paired.set r i t)
/-- a buffer's bytes stand in another list now -/
theorem CardL.bufU (h : CardL CD CR CC CU H c m own L) {p : Addr} {k : Nat} {b : Sj50.Bytes} (hp : own p = some 5) (hb : BytesAt H p b) :
    CardL CD CR CC CU (upd H L.bl (.lst ((L.bas.set k p).map V.ref))) c { m with bufs := m.bufs.set k b } own { L with bas := L.bas.set k p } := by
  refine ⟨h.oc, h.obl, h.oml, h.orl, h.ool, h.oca, fun a q => ?_, h.ooa, h.oFr, h.cellsU trivial, ?_, ?_, upd_same, ?_, ?_, ?_, ?_, ?_, ?_⟩
  · rcases mem_set_or q with q | q
    · rw [q]; exact hp
    · exact h.oba a q
  · rw [h.other h.obl h.oc (by decide)]; exact h.hc
  · rw [h.other h.obl h.oca (by decide)]; exact h.hca
  · have hq : Paired (BytesAt (upd H L.bl (.lst ((L.bas.set k p).map V.ref)))) L.bas m.bufs := Paired.memMono (fun a q b z => (h.other h.obl (h.oba a q) (by decide)).trans z) h.hba
    exact Paired.set (R := BytesAt _) ((h.other h.obl hp (by decide)).trans hb) k hq
  · rw [h.other h.obl h.oml (by decide)]; exact h.hml
  · rw [h.other h.obl h.orl (by decide)]; exact h.hrl
  · rw [h.other h.obl h.ool (by decide)]; exact h.hol
  · exact Paired.memMono (fun a q b z => (h.other h.obl (h.ooa a q) (by decide)).trans z) h.hoa
  · exact h.rings h.obl (by decide)
/-- the frames that are out: any of the card's -/
theorem CardL.outsU (h : CardL CD CR CC CU H c m own L) {l : List Addr} {fs : List Sj50.Bytes} (hl : ∀ a ∈ l, own a = some 6) (hb : Paired (BytesAt H) l fs) :
    CardL CD CR CC CU (upd H L.ol (.lst (l.map V.ref))) c { m with out := fs } own { L with oas := l } := by
  refine ⟨h.oc, h.obl, h.oml, h.orl, h.ool, h.oca, h.oba, hl, h.oFr, h.cellsU trivial, ?_, ?_, ?_, ?_, ?_, ?_, upd_same, ?_, ?_⟩
  · rw [h.other h.ool h.oc (by decide)]; exact h.hc
  · rw [h.other h.ool h.oca (by decide)]; exact h.hca
  · rw [h.other h.ool h.obl (by decide)]; exact h.hbl
  · exact Paired.memMono (fun a q b z => (h.other h.ool (h.oba a q) (by decide)).trans z) h.hba
  · rw [h.other h.ool h.oml (by decide)]; exact h.hml
  · rw [h.other h.ool h.orl (by decide)]; exact h.hrl
  · exact Paired.memMono (fun a q b z => (h.other h.ool (hl a q) (by decide)).trans z) hb
  · exact h.rings h.ool (by decide)
/-- a foreign thing is written -/
theorem CardL.foreign (h : CardL CD CR CC CU H c m own L) {b : Addr} {o0 o : HO} (hb : own b = none) (hx : H b = some o0) (hn : ∀ dx fs, o0 ≠ .ins CD dx fs) : CardL CD CR CC CU (upd H b o) c m own L := by
  have k : ∀ {y : Addr} {t : Nat}, own y = some t → upd H b o y = H y := fun {y t} e => upd_ne fun q => by
    rw [q, hb] at e
    cases e
  refine ⟨h.oc, h.obl, h.oml, h.orl, h.ool, h.oca, h.oba, h.ooa, h.oFr, fun y t e => ?_, (k h.oc).trans h.hc, (k h.oca).trans h.hca, (k h.obl).trans h.hbl, Paired.memMono (fun a q b z => (k (h.oba a q)).trans z) h.hba, (k h.oml).trans h.hml, (k h.orl).trans h.hrl, (k h.ool).trans h.hol,
    Paired.memMono (fun a q b z => (k (h.ooa a q)).trans z) h.hoa, fun i hi => (h.hr i hi).out (G := [b]) (fun y q dx fs e => ?_) (fun y o' e q => ?_) fun y q z => ?_⟩
  · rw [k e]
    exact h.cells y t e
  · rw [List.mem_singleton.mp q, hx] at e
    exact hn _ _ (Option.some.inj e)
  · rw [upd_ne fun z => q (List.mem_singleton.mpr z)]
    exact e
  · have h1 := h.oFr i hi y q
    rw [List.mem_singleton.mp z, hb] at h1
    cases h1
theorem CNew.own1 {p : Addr} {t : Nat} (hp : H p = none ∨ own p ≠ none) : CNew H own (own1 own p t) := fun b z y => by
  unfold Rg.own1 at y
  by_cases e : b = p
  · subst e
    rcases hp with hp | hp
    · exact hp
    · exact absurd z hp
  · rw [if_neg e] at y
    exact absurd z y
/-- t is none of the others' things -/
def Fresh (H : Hp) (own : Owns) (t : Addr) : Prop := ∀ b o, H b = some o → own b = none → b ≠ t
/-- .. stands, but that the numbers of descriptors may be others -/
def COutW (CD : Addr) (H H' : Hp) (own : Owns) : Prop := ∀ b o, H b = some o → own b = none → H' b = some o ∨ ∃ dx fs fs', o = .ins CD dx fs ∧ H' b = some (.ins CD dx fs')
theorem COut.weak (h : COut H H' own) : COutW CD H H' own := fun b o e z => .inl (h b o e z)
theorem COutW.live (h : COutW CD H H' own) {b : Addr} {o : HO} (e : H b = some o) (z : own b = none) : H' b ≠ none := by
  rcases h b o e z with q | ⟨dx, fs, fs', _, q⟩ <;> (rw [q]; exact fun y => nomatch y)
theorem COutW.keep (h : COutW CD H H' own) {b : Addr} {o : HO} (e : H b = some o) (z : own b = none) (n : ∀ dx fs, o ≠ .ins CD dx fs) : H' b = some o := by
  rcases h b o e z with q | ⟨dx, fs, fs', q, _⟩
  · exact q
  · exact absurd q (n dx fs)
theorem COutW.lst (h : COutW CD H H' own) {b : Addr} {xs : List V} (e : H b = some (.lst xs)) (z : own b = none) : H' b = some (.lst xs) := h.keep e z fun _ _ q => nomatch q
theorem CNew.keepO {own1 : Owns} (n : CNew H own own1) {b : Addr} {o : HO} (e : H b = some o) (z : own b = none) : own1 b = none := by
  cases q : own1 b with
  | none => rfl
  | some t =>
    have := n b z (by rw [q]; exact fun y => nomatch y)
    rw [this] at e
    cases e
theorem COutW.trans {H2 : Hp} {own1 : Owns} (a : COutW CD H H' own) (n : CNew H own own1) (b : COutW CD H' H2 own1) : COutW CD H H2 own := fun x o h z => by
  have z1 := n.keepO h z
  rcases a x o h z with q | ⟨dx, fs, fs', e, q⟩
  · exact b x o q z1
  · refine .inr ?_
    rcases b x _ q z1 with y | ⟨dx2, fs2, fs3, e2, y⟩
    · exact ⟨dx, fs, fs', e, y⟩
    · injection e2 with _ e2 _
      subst e2
      exact ⟨dx, fs, fs3, e, y⟩
theorem CNew.transW {own1 own2 : Owns} (a : COutW CD H H' own) (n : CNew H own own1) (b : CNew H' own1 own2) : CNew H own own2 := fun x z y => by
  cases q : own1 x with
  | none =>
    have h1 := b x q y
    cases e : H x with
    | none => rfl
    | some o => exact absurd h1 (a.live e z)
  | some t => exact n x z (by rw [q]; exact fun y => nomatch y)
/-- one more is posted in a ring, its list written in place -/
theorem RingAt.post {a : Addr} {z : Nat} {r : Sj50.Ring} {fr : Sj50.Bytes} {F : List Addr} (hne : CR ≠ CD) (R : RingAt CD CR H a z r fr F) :
    ∃ dx p s d f ps, H a = some (.ins CR dx (rF z p s d f)) ∧ H p = some (.lst ps) ∧ ps.length = r.posted.length ∧ p ∈ F ∧
      ∀ v dd, DescV CD H v dd → RingAt CD CR (upd H p (.lst (ps ++ [v]))) a z { r with posted := r.posted ++ [dd] } fr F ∧ Out H (upd H p (.lst (ps ++ [v]))) F := by
  have nD := R.noD hne
  obtain ⟨dx, p, s, d, f, ps, ss, ds, rfl, nd, ha, hp, hs, hd, hf, h1, h2, h3⟩ := R
  obtain ⟨⟨n1, n2, n3, n4⟩, ⟨n5, n6, n7⟩, ⟨n8, n9⟩, n10⟩ := five nd
  refine ⟨dx, p, s, d, f, ps, ha, hp, Paired.len h1, by simp, fun v dd hv => ?_⟩
  have ko : Out H (upd H p (.lst (ps ++ [v]))) [a, p, s, d, f] := fun b o e hb => by
    simp only [List.mem_cons, List.not_mem_nil, or_false, not_or] at hb
    rw [upd_ne hb.2.1]
    exact e
  exact ⟨⟨dx, p, s, d, f, ps ++ [v], ss, ds, rfl, nd, (upd_ne n1).trans ha, upd_same, (upd_ne n5.symm).trans hs, (upd_ne n6.symm).trans hd, (upd_ne n7.symm).trans hf, Paired.append (h1.out nD ko) (.cons (hv.out nD ko) .nil), h2.out nD ko, h3.out nD ko⟩, ko⟩
end
end Rg

namespace Rg
open PySem PySem.Spec PyProof.Rows L2
abbrev sTold : Stmt := top 25
/-- written pairs, a written tuple of them -/
def WPair (K : PySem.W.Frag) (v : V) (q : Int × Int) : Prop := ∃ a, v = .ref a ∧ ∀ H, SqT K H a [.int q.1, .int q.2]
def WRanges (K : PySem.W.Frag) (v : V) (rs : List (Int × Int)) : Prop := ∃ a vs, v = .ref a ∧ (∀ H, SqT K H a vs) ∧ Paired (WPair K) vs rs
theorem Paired.get {α β : Type} {R : α → β → Prop} : ∀ {xs : List α} {ys : List β} {i : Nat} {y : β}, Paired R xs ys → ys[i]? = some y → ∃ x, xs[i]? = some x ∧ R x y
  | _, _, _, _, .nil, e => by simp at e
  | _, _, 0, _, .cons r _, e => by simp at e; subst e; exact ⟨_, rfl, r⟩
  | _, _, i + 1, y, .cons _ t, e => by
    obtain ⟨u, h1, h2⟩ := Paired.get (i := i) (y := y) t (by simpa using e)
    exact ⟨u, by simpa using h1, h2⟩
theorem within_drop : ∀ {rs : List (Int × Int)} {xs : List Int} {i : Nat} {r : Int × Int} {x : Int}, rs[i]? = some r → xs[i]? = some x → within (rs.drop i) (xs.drop i) = ((decide (r.1 ≤ x) && decide (x ≤ r.2)) && within (rs.drop (i + 1)) (xs.drop (i + 1)))
  | [], _, _, _, _, h, _ => by simp at h
  | _ :: _, [], _, _, _, _, h => by simp at h
  | a :: rs, b :: xs, 0, r, x, h1, h2 => by
    simp at h1 h2
    subst h1 h2
    rfl
  | a :: rs, b :: xs, i + 1, r, x, h1, h2 => by
    have ih := within_drop (rs := rs) (xs := xs) (i := i) (r := r) (x := x) (by simpa using h1) (by simpa using h2)
    simpa using ih
/-- are_as_told(call, numbers) -/
def spTold (K : PySem.W.Frag) (aR : Addr) : Sp := fun vs H Q _ => ∃ (n : Int) (q : Addr) (xs : List Int) (v : V) (rs : List (Int × Int)), vs = [.int n, .ref q] ∧ SqL K H q (xs.map V.int) ∧ KDI K aR n v ∧ WRanges K v rs ∧ rs.length ≤ xs.length ∧ rs.length ≤ 1000 ∧ Q (.bl (within rs xs)) H
structure TTxt (mg : Str → Option Value) (aR : Addr) : Prop where
  len : mg "len" = none
  range : mg "range" = none
  ranges : mg "RANGES" = some (.ref aR)
section
variable {P : Program} {w : World} {K : PySem.W.Frag} {mg : Str → Option Value} {base : Heap} {aR : Addr}
theorem scTold : FnScope ["call", "numbers", "ranges", "place", "least", "most"] ["call", "numbers"] (defScope sTold) := ⟨rfl, rfl, rfl, by decide +kernel, rfl, by decide +kernel, by decide +kernel⟩
theorem ok_told {f : Addr} {fd : FuncData} (F : Fun K "are_as_told" "are_as_told" sTold f fd) (T : TTxt mg aR) : FnOk P w K mg base CX0 1 f fd ["call", "numbers"] (spTold K aR) := by
  refine F.ok scTold (fun vs H Q E h => ?_) (fun cdv A outer s H vs Q E hr h => ?_)
  · obtain ⟨n, q, xs, v, rs, rfl, _⟩ := h
    rfl
  · obtain ⟨n, q, xs, v, rs, rfl, hq, hd, ⟨a, us, rfl, ha, hp⟩, hl, hl2, k⟩ := h
    have hus := Paired.len hp
    refine ⟨_, pss_cons (ps_set (i := 2) scTold.nd rfl (Or.inl rfl) (pe_ix ix_kdi (pe_glob (v := .ref aR) rfl T.ranges rfl) (pv 0) (fun _ _ => rfl)))
      (pss_cons (ps_for PassesOwn.never rfl (pi_range1 rfl T.range (pa_cons (pe_callB call_len_seq (by rfl) T.len PySem.boot_len (pa_cons (pv 2) pa_nil)) pa_nil)) (pg_name (i := 3) scTold.nd rfl (Or.inl rfl))
        (pss_cons (ps_set (i := 4) scTold.nd rfl (Or.inl rfl) (pe_ix ix_tup (pe_ix ix_tup (pv 2) (pv 3) (fun _ _ => rfl)) pe_int (fun _ _ => rfl)))
        (pss_cons (ps_set (i := 5) scTold.nd rfl (Or.inl rfl) (pe_ix ix_tup (pe_ix ix_tup (pv 2) (pv 3) (fun _ _ => rfl)) pe_int (fun _ _ => rfl)))
        (pss_one (ps_if (PW.pt (pw_or (pt_cmpR op_lt (pe_ix ix_list (pv 1) (pv 3) (fun _ _ => rfl)) (pv 4) (nomark _)) (pw_or1 (pt_cmpR op_gt (pe_ix ix_list (pv 1) (pv 3) (fun _ _ => rfl)) (pv 5) (nomark _)))))
          (pss_one (ps_ret pe_bl)) pss_nil)))))
      (pss_one (ps_ret pe_bl))), ?_⟩
    refine ⟨_, rfl, aR, n, _, rfl, rfl, hd, ?_⟩
    refine ⟨_, rfl, a, us, rfl, .inr (ha _), _, rfl, ?_, ?_, for_range (lo := 0) (n := us.length) (fun i σ H' => ∃ (p l m : Option V), σ = [some (.int n), some (.ref q), some (.ref a), p, l, m] ∧ H' = H ∧ within (rs.drop i) (xs.drop i) = within rs xs) ⟨none, none, none, rfl, rfl, rfl⟩ ?_ ?_⟩
    · omega
    · have : (us.length : Int) ≤ 1000 := by omega
      exact Int.lt_of_le_of_lt this (by decide)
    · rintro i σ H' hi ⟨p, l, m, rfl, rfl, hw⟩
      obtain ⟨r, hr⟩ : ∃ r, rs[i]? = some r := ⟨_, List.getElem?_eq_getElem (by omega)⟩
      obtain ⟨x, hx⟩ : ∃ x, xs[i]? = some x := ⟨_, List.getElem?_eq_getElem (by omega)⟩
      obtain ⟨u, hu, b, rfl, hb⟩ := Paired.get hp hr
      have hat : atI us (0 + (i : Int)) = some (.ref b) := by
        rw [Int.zero_add]
        exact atI_nat hu
      have hxt : atI (xs.map V.int) (0 + (i : Int)) = some (.int x) := by
        rw [Int.zero_add]
        exact atI_nat (by rw [List.getElem?_map, hx]; rfl)
      rw [within_drop hr hx] at hw
      refine ⟨_, rfl, _, rfl, a, us, _, _, rfl, rfl, ha _, hat, b, _, _, _, rfl, rfl, hb _, rfl, ?_⟩
      refine ⟨_, rfl, _, rfl, a, us, _, _, rfl, rfl, ha _, hat, b, _, _, _, rfl, rfl, hb _, rfl, ?_⟩
      refine ⟨_, rfl, _, rfl, q, _, _, _, rfl, rfl, hq, hxt, _, rfl, _, _, rfl, rfl, _, rfl, ?_⟩
      by_cases c1 : x < r.1
      · rw [decide_eq_true c1]
        refine iteT (iteT ?_)
        have e : within rs xs = false := by rw [← hw, decide_eq_false (by omega), Bool.false_and, Bool.false_and]
        rw [e] at k
        exact k
      · rw [decide_eq_false c1]
        refine iteF ?_
        refine ⟨_, rfl, _, rfl, q, _, _, _, rfl, rfl, hq, hxt, _, rfl, _, _, rfl, rfl, _, rfl, ?_⟩
        by_cases c2 : r.2 < x
        · rw [decide_eq_true c2]
          refine iteT ?_
          have e : within rs xs = false := by rw [← hw, decide_eq_false (show ¬ x ≤ r.2 by omega), Bool.and_false, Bool.false_and]
          rw [e] at k
          exact k
        · rw [decide_eq_false c2]
          refine iteF ?_
          refine ⟨_, _, _, rfl, rfl, ?_⟩
          rw [← hw, decide_eq_true (show r.1 ≤ x by omega), decide_eq_true (show x ≤ r.2 by omega), Bool.true_and, Bool.true_and]
    · rintro σ H' ⟨p, l, m, rfl, rfl, hw⟩
      rw [hus, List.drop_of_length_le (Nat.le_refl _)] at hw
      have e : within rs xs = true := hw.symm.trans rfl
      rw [e] at k
      exact k
end
end Rg

namespace Rg
open PySem PySem.Spec PyProof.Rows L2
abbrev sDesc : Stmt := inClass (top 14) 0
abbrev sRInit : Stmt := inClass (top 15) 0
structure DTxt (K : PySem.W.Frag) (CD : Addr) : Prop where
  cl : Cls K CD
  nB : NoAttr K CD "buffer"
  nL : NoAttr K CD "length"
  nT : NoAttr K CD "last"
/-- Descriptor(buffer, length, last) -/
def spDesc (CD : Addr) : Sp := fun vs H Q _ => ∃ (a dx : Addr) (d : Sj50.Desc), vs = [.ref a, .int (d.buf : Int), .int (d.len : Int), .int (Sj50.bit d.last)] ∧ H a = some (.ins CD dx []) ∧ Q .non (upd H a (.ins CD dx (dF d)))
theorem dF_new (a b c : V) : putF "last" c (putF "length" b (putF "buffer" a [])) = [(("buffer" : Str), a), ("length", b), ("last", c)] := by
  have e1 : putF "buffer" a [] = [(("buffer" : Str), a)] := rfl
  have e2 : putF "length" b [(("buffer" : Str), a)] = [(("buffer" : Str), a), ("length", b)] := (put_past (by decide +kernel)).trans rfl
  rw [e1, e2]
  exact (put_past (by decide +kernel)).trans (congrArg _ ((put_past (by decide +kernel)).trans rfl))
theorem rF_new (z p s d f : V) : putF "frame" f (putF "done" d (putF "seen" s (putF "posted" p (putF "places" z [])))) = [(("places" : Str), z), ("posted", p), ("seen", s), ("done", d), ("frame", f)] := by
  have e1 : putF "places" z [] = [(("places" : Str), z)] := rfl
  have e2 : putF "posted" p [(("places" : Str), z)] = [(("places" : Str), z), ("posted", p)] := (put_past (by decide +kernel)).trans rfl
  have e3 : putF "seen" s [(("places" : Str), z), ("posted", p)] = [(("places" : Str), z), ("posted", p), ("seen", s)] := (put_past (by decide +kernel)).trans (congrArg _ ((put_past (by decide +kernel)).trans rfl))
  have e4 : putF "done" d [(("places" : Str), z), ("posted", p), ("seen", s)] = [(("places" : Str), z), ("posted", p), ("seen", s), ("done", d)] := (put_past (by decide +kernel)).trans (congrArg _ ((put_past (by decide +kernel)).trans (congrArg _ ((put_past (by decide +kernel)).trans rfl))))
  rw [e1, e2, e3, e4]
  exact (put_past (by decide +kernel)).trans (congrArg _ ((put_past (by decide +kernel)).trans (congrArg _ ((put_past (by decide +kernel)).trans (congrArg _ ((put_past (by decide +kernel)).trans rfl))))))
/-- Ring(places) -/
def spRingInit (CD CR : Addr) : Sp := fun vs H Q _ => ∃ (a dx : Addr) (z : Nat), vs = [.ref a, .int (z : Int)] ∧ H a = some (.ins CR dx []) ∧
  ∀ H' F, RingAt CD CR H' a z Sj50.empty [] F → (∀ b o, H b = some o → b ≠ a → H' b = some o) → (∀ b ∈ F, b = a ∨ H b = none) → Q .non H'
section
variable {P : Program} {w : World} {K : PySem.W.Frag} {mg : Str → Option Value} {base : Heap} {CD CR : Addr}
theorem scDesc : FnScope ["self", "buffer", "length", "last"] ["self", "buffer", "length", "last"] (defScope sDesc) := ⟨rfl, rfl, rfl, by decide +kernel, rfl, by decide +kernel, by decide +kernel⟩
theorem ok_desc {f : Addr} {fd : FuncData} (F : Fun K "__init__" "Descriptor.__init__" sDesc f fd) (T : DTxt K CD) : FnOk P w K mg base CX0 1 f fd ["self", "buffer", "length", "last"] (spDesc CD) := by
  refine F.ok scDesc (fun vs H Q E h => ?_) (fun cdv A outer s H vs Q E hr h => ?_)
  · obtain ⟨a, dx, d, rfl, _⟩ := h
    rfl
  · obtain ⟨a, dx, d, rfl, ha, k⟩ := h
    refine ⟨_, pss_cons (ps_fld (pv 0) (pv 1) rfl) (pss_cons (ps_fld (pv 0) (pv 2) rfl) (pss_one (ps_fld (pv 0) (pv 3) rfl))), ?_⟩
    refine ⟨_, rfl, _, rfl, a, CD, dx, _, rfl, ha, T.cl, T.nB, (by show 0 < 1000; decide), ?_⟩
    refine ⟨_, rfl, _, rfl, a, CD, dx, _, rfl, upd_same, T.cl, T.nL, (by show 1 < 1000; decide), ?_⟩
    refine ⟨_, rfl, _, rfl, a, CD, dx, _, rfl, upd_same, T.cl, T.nT, ?_, ?_⟩
    · have e2 : putF "length" (V.int (d.len : Int)) (putF "buffer" (V.int (d.buf : Int)) []) = [(("buffer" : Str), V.int (d.buf : Int)), ("length", V.int (d.len : Int))] := (put_past (by decide +kernel)).trans rfl
      rw [e2]
      show 2 < 1000
      decide
    · rw [upd_upd, upd_upd, dF_new]
      exact k
theorem scRInit : FnScope ["self", "places"] ["self", "places"] (defScope sRInit) := ⟨rfl, rfl, rfl, by decide +kernel, rfl, by decide +kernel, by decide +kernel⟩
theorem put_len {f : Str} {v : V} : ∀ {fs : List (Str × V)}, (putF f v fs).length ≤ fs.length + 1
  | [] => Nat.le_refl _
  | (g, x) :: r => by
    by_cases e : g = f
    · subst e
      rw [put_here]
      simp
    · rw [put_past e]
      have := put_len (f := f) (v := v) (fs := r)
      simp only [List.length_cons]
      omega
theorem ok_rinit {f : Addr} {fd : FuncData} (F : Fun K "__init__" "Ring.__init__" sRInit f fd) (T : RTxt K mg CD CR) : FnOk P w K mg base CX0 1 f fd ["self", "places"] (spRingInit CD CR) := by
  refine F.ok scRInit (fun vs H Q E h => ?_) (fun cdv A outer s H vs Q E hr h => ?_)
  · obtain ⟨a, dx, z, rfl, _⟩ := h
    rfl
  · obtain ⟨a, dx, z, rfl, ha, k⟩ := h
    refine ⟨_, pss_cons (ps_fld (pv 0) (pv 1) rfl) (pss_cons (ps_fld (pv 0) (pe_lst pa_nil) rfl) (pss_cons (ps_fld (pv 0) (pe_lst pa_nil) rfl) (pss_cons (ps_fld (pv 0) (pe_lst pa_nil) rfl) (pss_one (ps_fld (pv 0) (pe_lst pa_nil) rfl))))), ?_⟩
    refine ⟨_, rfl, _, rfl, a, CR, dx, _, rfl, ha, T.cl, T.nZ, (by show 0 < 1000; decide), Nat.zero_le _, fun p hp => ?_⟩
    have pa : a ≠ p := fun e => by rw [← e, upd_same] at hp; cases hp
    have hp0 : H p = none := (upd_ne pa.symm).symm.trans hp
    refine ⟨_, rfl, a, CR, dx, _, rfl, (upd_ne pa).trans upd_same, T.cl, T.nP, (by show 1 < 1000; decide), Nat.zero_le _, fun s hs => ?_⟩
    have sa : a ≠ s := fun e => by rw [← e, upd_same] at hs; cases hs
    rw [upd_ne sa.symm] at hs
    have sp : p ≠ s := fun e => by rw [← e, upd_same] at hs; cases hs
    rw [upd_ne sp.symm, upd_ne sa.symm] at hs
    refine ⟨_, rfl, a, CR, dx, _, rfl, (upd_ne sa).trans upd_same, T.cl, T.nS, Nat.lt_of_le_of_lt (Nat.le_trans put_len (Nat.succ_le_succ put_len)) (by show 2 < 1000; decide), Nat.zero_le _, fun d hd => ?_⟩
    have da : a ≠ d := fun e => by rw [← e, upd_same] at hd; cases hd
    rw [upd_ne da.symm] at hd
    have ds : s ≠ d := fun e => by rw [← e, upd_same] at hd; cases hd
    rw [upd_ne ds.symm, upd_ne da.symm] at hd
    have dp : p ≠ d := fun e => by rw [← e, upd_same] at hd; cases hd
    rw [upd_ne dp.symm, upd_ne da.symm] at hd
    refine ⟨_, rfl, a, CR, dx, _, rfl, (upd_ne da).trans upd_same, T.cl, T.nD, Nat.lt_of_le_of_lt (Nat.le_trans put_len (Nat.succ_le_succ (Nat.le_trans put_len (Nat.succ_le_succ put_len)))) (by show 3 < 1000; decide), Nat.zero_le _, fun f hf => ?_⟩
    have fa : a ≠ f := fun e => by rw [← e, upd_same] at hf; cases hf
    rw [upd_ne fa.symm] at hf
    have fd : d ≠ f := fun e => by rw [← e, upd_same] at hf; cases hf
    rw [upd_ne fd.symm, upd_ne fa.symm] at hf
    have fs : s ≠ f := fun e => by rw [← e, upd_same] at hf; cases hf
    rw [upd_ne fs.symm, upd_ne fa.symm] at hf
    have fp : p ≠ f := fun e => by rw [← e, upd_same] at hf; cases hf
    rw [upd_ne fp.symm, upd_ne fa.symm] at hf
    refine ⟨_, rfl, a, CR, dx, _, rfl, (upd_ne fa).trans upd_same, T.cl, T.nF, Nat.lt_of_le_of_lt (Nat.le_trans put_len (Nat.succ_le_succ (Nat.le_trans put_len (Nat.succ_le_succ (Nat.le_trans put_len (Nat.succ_le_succ put_len)))))) (by show 4 < 1000; decide), ?_⟩
    rw [rF_new]
    refine k _ [a, p, s, d, f] ⟨dx, p, s, d, f, [], [], [], rfl, five_of ⟨⟨pa, sa, da, fa⟩, ⟨sp, dp, fp⟩, ⟨ds, fs⟩, fd⟩, upd_same, ?_, ?_, ?_, ?_, .nil, .nil, .nil⟩ (fun b o e n => ?_) fun b hb => ?_
    · rw [upd_ne pa.symm, upd_ne fp, upd_ne pa.symm, upd_ne dp, upd_ne pa.symm, upd_ne sp, upd_ne pa.symm, upd_same]
    · rw [upd_ne sa.symm, upd_ne fs, upd_ne sa.symm, upd_ne ds, upd_ne sa.symm, upd_same]
    · rw [upd_ne da.symm, upd_ne fd, upd_ne da.symm, upd_same]
    · rw [upd_ne fa.symm, upd_same]
      rfl
    · have n1 := ne_of_none e hp0
      have n2 := ne_of_none e hs
      have n3 := ne_of_none e hd
      have n4 := ne_of_none e hf
      rw [upd_ne n, upd_ne n4, upd_ne n, upd_ne n3, upd_ne n, upd_ne n2, upd_ne n, upd_ne n1, upd_ne n]
      exact e
    · simp only [List.mem_cons, List.not_mem_nil, or_false] at hb
      rcases hb with rfl | rfl | rfl | rfl | rfl
      · exact .inl rfl
      · exact .inr hp0
      · exact .inr hs
      · exact .inr hd
      · exact .inr hf
end
end Rg

/-! The cause: an object of its own. -/
namespace Rg
open PySem PySem.Spec PyProof.Rows L2
abbrev sUInit : Stmt := inClass (top 1) 0
abbrev sUCount : Stmt := inClass (top 1) 1
abbrev sUTicks : Stmt := inClass (top 1) 2
abbrev sUGiven : Stmt := inClass (top 1) 3
abbrev sUAnew : Stmt := inClass (top 1) 4
structure UTxt (K : PySem.W.Frag) (CD CU : Addr) : Prop where
  cl : Cls K CU
  na : ∀ x, x ∈ uN → NoAttr K CU x
  ne : CU ≠ CD
section
variable (m l s t x : Nat)
theorem uG_len : (uG m l s t).length = 4 := rfl
theorem uG_many : (uG m l s t).lookup ("many" : Str) = some (.int (m : Int)) := lk_zip (i := 0) (by decide +kernel) rfl
theorem uG_late : (uG m l s t).lookup ("late" : Str) = some (.int (l : Int)) := lk_zip (i := 1) (by decide +kernel) rfl
theorem uG_since : (uG m l s t).lookup ("done_since" : Str) = some (.int (s : Int)) := lk_zip (i := 2) (by decide +kernel) rfl
theorem uG_ticks : (uG m l s t).lookup ("ticks_waited" : Str) = some (.int (t : Int)) := lk_zip (i := 3) (by decide +kernel) rfl
theorem uG_putS : putF "done_since" (.int (x : Int)) (uG m l s t) = uG m l x t := (put_zip (i := 2) (by decide +kernel) (by show 2 < 4; decide)).trans rfl
theorem uG_putT : putF "ticks_waited" (.int (x : Int)) (uG m l s t) = uG m l s x := (put_zip (i := 3) (by decide +kernel) (by show 3 < 4; decide)).trans rfl
theorem uG_no {n : Str} (h : uN.all (fun x => !(n == x)) = true) : (uG m l s t).lookup n = none := lk_zipNo h
end
theorem uG_new (m l : V) : putF "ticks_waited" (.int 0) (putF "done_since" (.int 0) (putF "late" l (putF "many" m []))) = uN.zip [m, l, .int 0, .int 0] := by
  have e1 : putF "many" m [] = [(("many" : Str), m)] := rfl
  have e2 : putF "late" l [(("many" : Str), m)] = [(("many" : Str), m), ("late", l)] := (put_past (by decide +kernel)).trans rfl
  have e3 : putF "done_since" (.int 0) [(("many" : Str), m), ("late", l)] = [(("many" : Str), m), ("late", l), ("done_since", .int 0)] := (put_past (by decide +kernel)).trans (congrArg _ ((put_past (by decide +kernel)).trans rfl))
  rw [e1, e2, e3]
  exact (put_past (by decide +kernel)).trans (congrArg _ ((put_past (by decide +kernel)).trans (congrArg _ ((put_past (by decide +kernel)).trans rfl))))
def spUInit (CU : Addr) : Sp := fun vs H Q _ => ∃ (a dx : Addr) (m l : Nat), vs = [.ref a, .int (m : Int), .int (l : Int)] ∧ H a = some (.ins CU dx []) ∧ Q .non (upd H a (.ins CU dx (uG m l 0 0)))
def spUCount (CU : Addr) : Sp := fun vs H Q _ => ∃ (a dx : Addr) (m l s t : Nat), vs = [.ref a] ∧ H a = some (.ins CU dx (uG m l s t)) ∧ Q .non (upd H a (.ins CU dx (uG m l (s + 1) t)))
def spUTicks (CU : Addr) : Sp := fun vs H Q _ => ∃ (a dx : Addr) (m l s t n : Nat), vs = [.ref a, .int (n : Int)] ∧ H a = some (.ins CU dx (uG m l s t)) ∧ (s = 0 → Q .non H) ∧ (s ≠ 0 → Q .non (upd H a (.ins CU dx (uG m l s (t + n)))))
def spUGiven (CU : Addr) : Sp := fun vs H Q _ => ∃ (a dx : Addr) (m l s t : Nat), vs = [.ref a] ∧ H a = some (.ins CU dx (uG m l s t)) ∧ Q (.bl (decide (m ≤ s) || decide (l ≤ t))) H
def spUAnew (CU : Addr) : Sp := fun vs H Q _ => ∃ (a dx : Addr) (m l s t : Nat), vs = [.ref a] ∧ H a = some (.ins CU dx (uG m l s t)) ∧ Q .non (upd H a (.ins CU dx (uG m l 0 0)))
section
variable {P : Program} {w : World} {K : PySem.W.Frag} {mg : Str → Option Value} {base : Heap} {CD CU : Addr}
theorem scUInit : FnScope ["self", "many", "late"] ["self", "many", "late"] (defScope sUInit) := ⟨rfl, rfl, rfl, by decide +kernel, rfl, by decide +kernel, by decide +kernel⟩
theorem ok_uinit {f : Addr} {fd : FuncData} (F : Fun K "__init__" "Cause.__init__" sUInit f fd) (T : UTxt K CD CU) : FnOk P w K mg base CX0 1 f fd ["self", "many", "late"] (spUInit CU) := by
  refine F.ok scUInit (fun vs H Q E h => ?_) (fun cdv A outer s H vs Q E hr h => ?_)
  · obtain ⟨a, dx, m, l, rfl, _⟩ := h
    rfl
  · obtain ⟨a, dx, m, l, rfl, ha, k⟩ := h
    refine ⟨_, pss_cons (ps_fld (pv 0) (pv 1) rfl) (pss_cons (ps_fld (pv 0) (pv 2) rfl) (pss_cons (ps_fld (pv 0) pe_int rfl) (pss_one (ps_fld (pv 0) pe_int rfl)))), ?_⟩
    refine ⟨_, rfl, _, rfl, a, CU, dx, _, rfl, ha, T.cl, T.na _ (by decide +kernel), (by show 0 < 1000; decide), ?_⟩
    refine ⟨_, rfl, _, rfl, a, CU, dx, _, rfl, upd_same, T.cl, T.na _ (by decide +kernel), (by show 1 < 1000; decide), ?_⟩
    refine ⟨_, rfl, a, CU, dx, _, rfl, upd_same, T.cl, T.na _ (by decide +kernel), Nat.lt_of_le_of_lt (Nat.le_trans put_len (Nat.succ_le_succ put_len)) (by show 2 < 1000; decide), ?_⟩
    refine ⟨_, rfl, a, CU, dx, _, rfl, upd_same, T.cl, T.na _ (by decide +kernel), Nat.lt_of_le_of_lt (Nat.le_trans put_len (Nat.succ_le_succ (Nat.le_trans put_len (Nat.succ_le_succ put_len)))) (by show 3 < 1000; decide), ?_⟩
    rw [upd_upd, upd_upd, upd_upd, uG_new]
    exact k
theorem scUCount : FnScope ["self"] ["self"] (defScope sUCount) := ⟨rfl, rfl, rfl, by decide +kernel, rfl, by decide +kernel, by decide +kernel⟩
theorem ok_ucount {f : Addr} {fd : FuncData} (F : Fun K "count_done" "Cause.count_done" sUCount f fd) (T : UTxt K CD CU) : FnOk P w K mg base CX0 1 f fd ["self"] (spUCount CU) := by
  refine F.ok scUCount (fun vs H Q E h => ?_) (fun cdv A outer s H vs Q E hr h => ?_)
  · obtain ⟨a, dx, m, l, s, t, rfl, _⟩ := h
    rfl
  · obtain ⟨a, dx, m, l, s, t, rfl, ha, k⟩ := h
    refine ⟨_, pss_one (ps_fldaug (pv 0) pe_int in_add), ?_⟩
    refine ⟨_, rfl, a, CU, dx, _, _, rfl, ha, T.cl, T.na _ (by decide +kernel), uG_since .., _, _, rfl, rfl, dx, _, ha, (by rw [uG_len]; decide), ?_⟩
    have e : ((s : Int) + 1) = ((s + 1 : Nat) : Int) := rfl
    rw [e, uG_putS]
    exact k
theorem scUTicks : FnScope ["self", "ticks"] ["self", "ticks"] (defScope sUTicks) := ⟨rfl, rfl, rfl, by decide +kernel, rfl, by decide +kernel, by decide +kernel⟩
theorem ok_uticks {f : Addr} {fd : FuncData} (F : Fun K "pass_ticks" "Cause.pass_ticks" sUTicks f fd) (T : UTxt K CD CU) : FnOk P w K mg base CX0 1 f fd ["self", "ticks"] (spUTicks CU) := by
  refine F.ok scUTicks (fun vs H Q E h => ?_) (fun cdv A outer s H vs Q E hr h => ?_)
  · obtain ⟨a, dx, m, l, s, t, n, rfl, _⟩ := h
    rfl
  · obtain ⟨a, dx, m, l, s, t, n, rfl, ha, k0, k1⟩ := h
    refine ⟨_, pss_one (ps_if (pt_cmpR op_gt (pe_fld (pv 0) rfl) pe_int (nomark _)) (pss_one (ps_fldaug (pv 0) (pv 1) in_add)) pss_nil), ?_⟩
    refine ⟨_, rfl, a, CU, dx, _, _, rfl, ha, T.cl, T.na _ (by decide +kernel), uG_since .., _, _, rfl, rfl, _, rfl, ?_⟩
    by_cases c : s = 0
    · rw [decide_eq_false (show ¬ (0 : Int) < (s : Int) by omega)]
      exact iteF (k0 c)
    · rw [decide_eq_true (show (0 : Int) < (s : Int) by omega)]
      refine iteT ⟨_, rfl, a, CU, dx, _, _, rfl, ha, T.cl, T.na _ (by decide +kernel), uG_ticks .., _, rfl, _, _, rfl, rfl, dx, _, ha, (by rw [uG_len]; decide), ?_⟩
      have e : ((t : Int) + (n : Int)) = ((t + n : Nat) : Int) := rfl
      rw [e, uG_putT]
      exact k1 c
theorem scUGiven : FnScope ["self"] ["self"] (defScope sUGiven) := ⟨rfl, rfl, rfl, by decide +kernel, rfl, by decide +kernel, by decide +kernel⟩
theorem ok_ugiven {f : Addr} {fd : FuncData} (F : Fun K "is_given" "Cause.is_given" sUGiven f fd) (T : UTxt K CD CU) : FnOk P w K mg base CX0 1 f fd ["self"] (spUGiven CU) := by
  refine F.ok scUGiven (fun vs H Q E h => ?_) (fun cdv A outer s H vs Q E hr h => ?_)
  · obtain ⟨a, dx, m, l, s, t, rfl, _⟩ := h
    rfl
  · obtain ⟨a, dx, m, l, s, t, rfl, ha, k⟩ := h
    refine ⟨_, pss_one (ps_ret (pe_or (pe_cmpR op_ge (pe_fld (pv 0) rfl) (pe_fld (pv 0) rfl) (nomark _)) (pe_one (pe_cmpR op_ge (pe_fld (pv 0) rfl) (pe_fld (pv 0) rfl) (nomark _))))), ?_⟩
    refine ⟨_, rfl, a, CU, dx, _, _, rfl, ha, T.cl, T.na _ (by decide +kernel), uG_since .., _, rfl, a, CU, dx, _, _, rfl, ha, T.cl, T.na _ (by decide +kernel), uG_many .., _, _, rfl, rfl, _, rfl, ?_⟩
    by_cases c : m ≤ s
    · rw [decide_eq_true (show (m : Int) ≤ (s : Int) by omega)]
      rw [decide_eq_true c, Bool.true_or] at k
      exact iteT k
    · rw [decide_eq_false (show ¬ (m : Int) ≤ (s : Int) by omega)]
      rw [decide_eq_false c, Bool.false_or] at k
      refine iteF ⟨_, rfl, a, CU, dx, _, _, rfl, ha, T.cl, T.na _ (by decide +kernel), uG_ticks .., _, rfl, a, CU, dx, _, _, rfl, ha, T.cl, T.na _ (by decide +kernel), uG_late .., _, _, rfl, rfl, ?_⟩
      have e : decide ((l : Int) ≤ (t : Int)) = decide (l ≤ t) := by
        rw [Bool.eq_iff_iff, decide_eq_true_eq, decide_eq_true_eq]
        omega
      show Q (.bl (decide ((l : Int) ≤ (t : Int)))) H
      rw [e]
      exact k
theorem scUAnew : FnScope ["self"] ["self"] (defScope sUAnew) := ⟨rfl, rfl, rfl, by decide +kernel, rfl, by decide +kernel, by decide +kernel⟩
theorem ok_uanew {f : Addr} {fd : FuncData} (F : Fun K "begin_anew" "Cause.begin_anew" sUAnew f fd) (T : UTxt K CD CU) : FnOk P w K mg base CX0 1 f fd ["self"] (spUAnew CU) := by
  refine F.ok scUAnew (fun vs H Q E h => ?_) (fun cdv A outer s H vs Q E hr h => ?_)
  · obtain ⟨a, dx, m, l, s, t, rfl, _⟩ := h
    rfl
  · obtain ⟨a, dx, m, l, s, t, rfl, ha, k⟩ := h
    refine ⟨_, pss_cons (ps_fld (pv 0) pe_int rfl) (pss_one (ps_fld (pv 0) pe_int rfl)), ?_⟩
    refine ⟨_, rfl, a, CU, dx, _, rfl, ha, T.cl, T.na _ (by decide +kernel), (by rw [uG_len]; decide), ?_⟩
    have e : putF "done_since" (.int 0) (uG m l s t) = uG m l 0 t := uG_putS m l s t 0
    rw [e]
    refine ⟨_, rfl, a, CU, dx, _, rfl, upd_same, T.cl, T.na _ (by decide +kernel), (by rw [uG_len]; decide), ?_⟩
    have e : putF "ticks_waited" (.int 0) (uG m l 0 t) = uG m l 0 0 := uG_putT m l 0 t 0
    rw [e, upd_upd]
    exact k
end
end Rg

namespace Rg
open PySem PySem.Spec PyProof.Rows L2
abbrev sAnswers : Stmt := top 45
/-- the whole number in a slot -/
def slotI (σ : L2.St) (i : Nat) : Int := match σ[i]? with
  | some (some (V.int p)) => p
  | _ => 0
/-- what the loop asks of how a desk lies in the heap -/
structure DeskP (CK : Addr) (D : Hp → Addr → Sj50.State → Owns → Prop) : Prop where
  live : ∀ {H d s own b}, D H d s own → own b ≠ none → H b ≠ none
  same : ∀ {H H' d s own}, D H d s own → Same H H' → D H' d s own
  ins : ∀ {H d s own}, D H d s own → ∃ dx fs, H d = some (.ins CK dx fs) ∧ fs.lookup ("answer" : Str) = none
  upd : ∀ {H d s own b xs ys}, D H d s own → own b = none → H b = some (.lst xs) → D (upd H b (.lst ys)) d s own
/-- Desk.answer(call, numbers) -/
def spDesk (CD : Addr) (D : Hp → Addr → Sj50.State → Owns → Prop) : Sp := fun vs H Q _ => ∃ (d q : Addr) (s : Sj50.State) (own : Owns) (n : Int) (xs : List Int), vs = [.ref d, .int n, .ref q] ∧ D H d s own ∧ own q = none ∧ H q = some (.lst (xs.map V.int)) ∧
  (Sj50Neutral.callOf (n :: xs)).isSome = true ∧
  ∀ (H' : Hp) (own' : Owns) (t : Addr), D H' d (Sj50Neutral.step s [n :: xs]).1 own' → COutW CD H H' own → CNew H own own' → own' t = none → Fresh H own t → H' t = some (.lst ((Sj50Neutral.step s [n :: xs]).2.map V.int)) → Q (.ref t) H'
/-- Desk() -/
def spDeskInit (CK : Addr) (D : Hp → Addr → Sj50.State → Owns → Prop) : Sp := fun vs H Q _ => ∃ (d dx : Addr), vs = [.ref d] ∧ H d = some (.ins CK dx []) ∧
  ∀ (H' : Hp) (own : Owns), D H' d none own → (∀ b o, H b = some o → b ≠ d → H' b = some o) → (∀ b, own b ≠ none → b = d) → Q .non H'
def spAnswers (K : PySem.W.Frag) : Sp := fun vs H Q _ => ∃ (a : Addr) (ns : List Int), vs = [.ref a] ∧ SqL K H a (ns.map V.int) ∧ PySj50.answers_asked ns = true ∧
  ∀ (H' : Hp) (p : Addr), H' p = some (.lst ((PySj50.answers ns).map V.int)) → Q (.ref p) H'
structure ATxt (K : PySem.W.Frag) (mg : Str → Option Value) (CK : Addr) : Prop where
  cl : Cls K CK
  gC : mg "Desk" = some (.ref CK)
  len : mg "len" = none
section
variable {P : Program} {w : World} {K : PySem.W.Frag} {mg : Str → Option Value} {base : Heap} {CK CD : Addr} {D : Hp → Addr → Sj50.State → Owns → Prop}
theorem scAnswers : FnScope ["calls", "desk", "told", "place", "begin", "end", "answer"] ["calls"] (defScope sAnswers) := ⟨rfl, rfl, rfl, by decide +kernel, rfl, by decide +kernel, by decide +kernel⟩
theorem ok_answers {j : Nat} {f fI fA : Addr} {fd fdI fdA : FuncData} (F : Fun K "answers" "answers" sAnswers f fd) (T : ATxt K mg CK) (DP : DeskP CK D) (MK : Mk K CK fI)
    (GI : FnOk P w K mg base CX0 1 fI fdI ["self"] (spDeskInit CK D)) (bI : Binds K fdI ["self"] [])
    (GA : FnOk P w K mg base CX0 (j + 2) fA fdA ["self", "call", "numbers"] (spDesk CD D)) (bA : Binds K fdA ["self", "call", "numbers"] []) (mA : Meth K CK "answer" fA) :
    FnOk P w K mg base CX0 (j + 3) f fd ["calls"] (spAnswers K) := by
  refine F.ok scAnswers (fun vs H Q E h => ?_) (fun cdv A outer s H vs Q E hr h => ?_)
  · obtain ⟨a, ns, rfl, _⟩ := h
    rfl
  · obtain ⟨a, ns, rfl, hS, hask, k⟩ := h
    obtain ⟨ds, ens, hds, hcall, eans, hlen⟩ := asked_calls hask
    refine ⟨_, pss_cons (ps_set (i := 1) scAnswers.nd rfl (Or.inl rfl) (pe_make0 MK GI (hr.mono (by omega)) rfl T.gC bI .nil pass0)) (pss_cons (ps_set (i := 2) scAnswers.nd rfl (Or.inl rfl) (pe_lst pa_nil)) (pss_cons (ps_set (i := 3) scAnswers.nd rfl (Or.inl rfl) pe_int)
      (pss_cons (ps_while PassesOwn.never (pt_cmpR op_lt (pv 3) (pe_callB call_len_seq (by rfl) T.len PySem.boot_len (pa_cons (pv 0) pa_nil)) (nomark _))
        (pss_cons (ps_set (i := 4) scAnswers.nd rfl (Or.inl rfl) (pe_op op_add (pv 3) pe_int))
        (pss_cons (ps_set (i := 5) scAnswers.nd rfl (Or.inl rfl) (pe_op op_add (pv 4) (pe_ix ix_list (pv 0) (pe_op op_add (pv 3) pe_int) (fun _ _ => rfl))))
        (pss_cons (ps_set (i := 6) scAnswers.nd rfl (Or.inl rfl) (pe_meth (pv 1) T.cl mA GA hr bA .nil pass0 (pa_cons (pe_ix ix_list (pv 0) (pv 3) (fun _ _ => rfl)) (pa_cons (pe_slice sl_list (pv 0) (po_some (pv 4)) (po_some (pv 5))) pa_nil))))
        (pss_cons (ps_expr (pe_bm PySem.F.plainAttrs_list PySem.F.slot_list_append PySem.F.type_list_append mt_append (pv 2) (pa_cons (pe_callB call_len_seq (by rfl) T.len PySem.boot_len (pa_cons (pv 6) pa_nil)) pa_nil)))
        (pss_cons (ps_expr (pe_bm PySem.F.plainAttrs_list PySem.F.slot_list_extend PySem.F.type_list_extend mt_extend (pv 2) (pa_cons (pv 6) pa_nil)))
        (pss_one (ps_set (i := 3) scAnswers.nd rfl (Or.inl rfl) (pe_op op_add (pv 5) pe_int)))))))))
      (pss_one (ps_ret (pv 2)))))), ?_⟩
    intro x dx nx ndx nex
    refine ⟨x, dx, rfl, upd_same, fun H1 own1 D1 kp hown => ⟨rfl, Nat.zero_le _, fun tl htl => ?_⟩⟩
    have nt : ∀ {b o}, H b = some o → b ≠ tl := fun {b o} e z => by
      rw [← z, kp b o (by rw [upd_ne (ne_of_none e nx), upd_ne (ne_of_none e ndx)]; exact e) (ne_of_none e nx)] at htl
      cases htl
    have hkp : ∀ b o, H b = some o → own1 b = none ∧ L2.upd H1 tl (.lst []) b = some o := fun b o e => by
      refine ⟨?_, ?_⟩
      · cases q : own1 b with
        | none => rfl
        | some t =>
          have := hown b (by rw [q]; exact fun z => nomatch z)
          exact absurd this (ne_of_none e nx)
      · rw [upd_ne (nt e)]
        exact kp b o (by rw [upd_ne (ne_of_none e nx), upd_ne (ne_of_none e ndx)]; exact e) (ne_of_none e nx)
    have otl : own1 tl = none := by
      cases q : own1 tl with
      | none => rfl
      | some t => exact absurd htl (DP.live D1 (by rw [q]; exact fun z => nomatch z))
    refine while_by (fun σ H' => ∃ (pre post : List (List Int)) (own : Owns) (b e an : Option V), ds = pre ++ post ∧ σ = [some (.ref a), some (.ref x), some (.ref tl), some (.int ((spells pre).length : Nat)), b, e, an] ∧ D H' x (after none pre) own ∧
        H' tl = some (.lst ((said none pre).map V.int)) ∧ own tl = none ∧ ∀ b o, H b = some o → (∀ dx fs, o ≠ .ins CD dx fs) → own b = none ∧ H' b = some o)
      (fun σ _ => ns.length - (slotI σ 3).toNat)
      ⟨[], ds, own1, none, none, none, rfl, rfl, DP.same D1 (Same.upd htl), upd_same, otl, fun b o e _ => hkp b o e⟩ ?_ ?_
    · rintro σ H' ⟨pre, post, own, b, e, an, eds, rfl, DD, hT, oT, hK⟩
      have hS' : SqL K H' a (ns.map V.int) := by
        rcases hS with (h | ⟨o, h⟩) | h
        · exact .inl (.inl (hK _ _ h fun _ _ q => nomatch q).2)
        · exact .inl (.inr ⟨o, (hK _ _ h fun _ _ q => nomatch q).2⟩)
        · exact .inr h
      refine ⟨_, rfl, _, rfl, a, _, rfl, .inl hS', _, _, rfl, rfl, _, rfl, ?_⟩
      cases post with
      | nil =>
        rw [List.append_nil] at eds
        have el : (spells pre).length = ns.length := by rw [ens, eds]
        rw [decide_eq_false (by rw [List.length_map]; omega)]
        refine iteF ⟨_, rfl, k _ tl ?_⟩
        rw [hT, eans, eds]
        rfl
      | cons d post =>
        obtain ⟨p, xs, rfl⟩ : ∃ p xs, d = p :: xs := by
          cases d with
          | nil =>
            have := (hcall [] (by rw [eds]; simp)).1
            cases this
          | cons p xs => exact ⟨p, xs, rfl⟩
        have hc1 := (hcall (p :: xs) (by rw [eds]; simp)).1
        have en : ns = spells pre ++ (spell (p :: xs) ++ spells post) := by rw [ens, eds, spells_app, spells_cons]
        obtain ⟨i1, i2, i3⟩ := at_spell (A := spells pre) (B := spells post) (xs := xs) (p := p)
        rw [← en] at i1 i2 i3
        have hnl : ns.length = (spells pre).length + (xs.length + 3) + (spells post).length := by
          rw [en, List.length_append, List.length_append, spell_len]
          omega
        have hal : (said none (pre ++ [p :: xs])).length ≤ 10000000 := by
          have : (said none ds).length ≤ 10000000 := by
            rw [eans] at hlen
            exact hlen
          rw [eds, show pre ++ (p :: xs) :: post = (pre ++ [p :: xs]) ++ post by simp, said_app, List.length_append] at this
          omega
        rw [said_app] at hal
        have hsz : said (after none pre) [p :: xs] = ((Sj50Neutral.step (after none pre) [p :: xs]).2.length : Int) :: (Sj50Neutral.step (after none pre) [p :: xs]).2 := by
          rw [said_cons, said_nil, List.append_nil]
        rw [hsz, List.length_append, List.length_cons] at hal
        rw [decide_eq_true (by rw [List.length_map]; omega)]
        refine iteT ?_
        -- begin = place + 2; end = begin + calls[place + 1]
        refine ⟨_, rfl, _, _, rfl, rfl, ?_⟩
        refine ⟨_, rfl, _, rfl, _, rfl, _, _, rfl, rfl, a, _, _, _, rfl, rfl, hS', at_of (j := (spells pre).length + 1) (by omega) (by rw [List.getElem?_map, i2]; rfl), _, _, rfl, rfl, ?_⟩
        obtain ⟨dx', fs, hx', hno⟩ := DP.ins DD
        -- answer = desk.answer(calls[place], calls[begin:end])
        refine ⟨_, rfl, x, dx', fs, rfl, hx', hno, _, rfl, _, rfl, a, _, _, _, rfl, rfl, hS', atI_nat (j := (spells pre).length) (by rw [List.getElem?_map, i1]; rfl), _, rfl, _, rfl, _, rfl, _, rfl, _, rfl, a, _, rfl, hS', fun m hm => ?_⟩
        have om : own m = none := by
          cases q : own m with
          | none => rfl
          | some t => exact absurd hm (DP.live DD (by rw [q]; exact fun z => nomatch z))
        have ec : cutV (ns.map V.int) (some (((spells pre).length : Int) + 2)) (some (((spells pre).length : Int) + 2 + (xs.length : Int))) = xs.map V.int := by
          rw [cut_mid (by omega) (by omega), show (((spells pre).length : Int) + 2).toNat = (spells pre).length + 2 by omega,
            show (((spells pre).length : Int) + 2 + (xs.length : Int)).toNat - ((spells pre).length + 2) = xs.length by omega, ← List.map_drop, ← List.map_take, i3]
        refine ⟨x, m, after none pre, own, p, xs, rfl, DP.same DD (Same.upd hm), om, by rw [upd_same]; exact congrArg (fun l => some (HO.lst l)) ec, hc1, fun H3 own3 t D3 co cn ot ht hct => ?_⟩
        have mt : m ≠ tl := (ne_of_none hT hm).symm
        have hT2 : L2.upd H' m (.lst (cutV (ns.map V.int) (some (((spells pre).length : Int) + 2)) (some (((spells pre).length : Int) + 2 + (xs.length : Int))))) tl = some (.lst ((said none pre).map V.int)) := (upd_ne mt.symm).trans hT
        have hT3 := co.lst hT2 oT
        have keep : ∀ y o, L2.upd H' m (.lst (cutV (ns.map V.int) (some (((spells pre).length : Int) + 2)) (some (((spells pre).length : Int) + 2 + (xs.length : Int))))) y = some o → own y = none → own3 y = none := fun y o e z => by
          cases q : own3 y with
          | none => rfl
          | some u =>
            have := cn y z (by rw [q]; exact fun v => nomatch v)
            rw [this] at e
            cases e
        have oT3 := keep tl _ hT2 oT
        have tt : t ≠ tl := (ht tl _ hT2 oT).symm
        -- told.append(len(answer)); told.extend(answer)
        refine ⟨_, rfl, .inl ⟨rfl, _, SqL.of hT3⟩, _, rfl, t, _, rfl, .inl (SqL.of hct), tl, _, _, rfl, rfl, hT3, Nat.lt_of_le_of_lt (show _ ≤ 10000000 by rw [List.length_map]; omega) (by decide), ?_⟩
        refine ⟨_, rfl, .inl ⟨rfl, _, SqL.of upd_same⟩, _, rfl, tl, t, _, _, rfl, rfl, upd_same, (upd_ne tt).trans hct, Nat.le_trans (show _ ≤ 10000000 by simp only [List.length_append, List.length_map, List.length_cons, List.length_nil]; omega) (by decide), ?_⟩
        refine ⟨_, rfl, _, _, rfl, rfl, ?_⟩
        refine ⟨⟨pre ++ [p :: xs], post, own3, some (.int (((spells pre).length : Int) + 2)), some (.int (((spells pre).length : Int) + 2 + (xs.length : Int))), some (.ref t), by rw [eds]; simp, ?_, ?_, ?_, oT3, fun y o e no => ?_⟩, ?_⟩
        · have ep : ((spells pre).length : Int) + 2 + (xs.length : Int) + 1 = ((spells (pre ++ [p :: xs])).length : Nat) := by
            rw [spells_app, List.length_append, spells_cons, List.length_append, spell_len]
            show _ = ((_ + (xs.length + 3 + 0) : Nat) : Int)
            omega
          rw [← ep]
          rfl
        · rw [after_app]
          exact DP.upd (DP.upd D3 oT3 hT3) oT3 upd_same
        · rw [upd_same, said_app, hsz]
          simp
        · have e1 := hK y o e no
          have n1 : y ≠ m := ne_of_none e1.2 hm
          have e2 : L2.upd H' m (.lst (cutV (ns.map V.int) (some (((spells pre).length : Int) + 2)) (some (((spells pre).length : Int) + 2 + (xs.length : Int))))) y = some o := (upd_ne n1).trans e1.2
          refine ⟨keep y _ e2 e1.1, ?_⟩
          rw [upd_ne (nt e), upd_ne (nt e)]
          exact co.keep e2 e1.1 no
        · show ns.length - (((spells pre).length : Int) + 2 + (xs.length : Int) + 1).toNat < ns.length - (((spells pre).length : Nat) : Int).toNat
          omega
    · rintro σ H' R R' hq ⟨v1, e1, v2, e2, y1, y2, e3, e4, i, j, e5, e6, b, e7, q⟩
      exact ⟨v1, e1, v2, e2, y1, y2, e3, e4, i, j, e5, e6, b, e7, hq _ _ q⟩
end
end Rg

namespace Rg
open PySem PySem.Spec PyProof.Rows L2
abbrev sDInit : Stmt := inClass (top 44) 0
abbrev sDAns : Stmt := inClass (top 44) 1
abbrev CT := Hp → Addr → Sj50.Card → Owns → Prop
/-- what the desk asks of how a card lies in the heap -/
structure CardP (CD : Addr) (C : CT) : Prop where
  live : ∀ {H c m own b}, C H c m own → own b ≠ none → H b ≠ none
  same : ∀ {H H' c m own}, C H c m own → Same H H' → C H' c m own
  upd : ∀ {H c m own b o0 o}, C H c m own → own b = none → H b = some o0 → (∀ dx fs, o0 ≠ .ins CD dx fs) → C (upd H b o) c m own
def kF (v : V) : List (Str × V) := [("card", v)]
theorem kF_card (v : V) : (kF v).lookup ("card" : Str) = some v := lk_here
theorem kF_no (v : V) {m : Str} (h : (m == ("card" : Str)) = false) : (kF v).lookup m = none := (lk_past h).trans rfl
theorem kF_put (v u : V) : putF "card" u (kF v) = kF u := put_here
/-- a desk stands at d -/
def DeskAt (CK : Addr) (C : CT) (H : Hp) (d : Addr) (s : Sj50.State) (own : Owns) : Prop := match s with
  | none => ∃ dx, H d = some (.ins CK dx (kF .non)) ∧ own = own1 (fun _ => none) d 20
  | some m => ∃ dx c o, H d = some (.ins CK dx (kF (.ref c))) ∧ own = own1 o d 20 ∧ o d = none ∧ C H c m o
theorem desk_ins {CK : Addr} {C : CT} {H : Hp} {d : Addr} {s : Sj50.State} {own : Owns} (h : DeskAt CK C H d s own) : ∃ dx v, H d = some (.ins CK dx (kF v)) := by
  cases s with
  | none => obtain ⟨dx, h1, _⟩ := h; exact ⟨dx, _, h1⟩
  | some m => obtain ⟨dx, c, o, h1, _⟩ := h; exact ⟨dx, _, h1⟩
theorem own1_ne {own : Owns} {p b : Addr} {t : Nat} (h : b ≠ p) : own1 own p t b = own b := if_neg h
theorem deskP {CK CD : Addr} {C : CT} (hne : CK ≠ CD) (P : CardP CD C) : DeskP CK (DeskAt CK C) where
  live := fun {H d s own b} h z => by
    obtain ⟨dx, v, hd⟩ := desk_ins h
    by_cases e : b = d
    · rw [e, hd]; exact fun y => nomatch y
    · cases s with
      | none =>
        obtain ⟨dx, _, rfl⟩ := h
        rw [own1_ne e] at z
        exact absurd rfl z
      | some m =>
        obtain ⟨dx, c, o, _, rfl, _, hc⟩ := h
        rw [own1_ne e] at z
        exact P.live hc z
  same := fun {H H' d s own} h z => by
    cases s with
    | none => obtain ⟨dx, h1, h2⟩ := h; exact ⟨dx, z _ _ h1, h2⟩
    | some m => obtain ⟨dx, c, o, h1, h2, h3, h4⟩ := h; exact ⟨dx, c, o, z _ _ h1, h2, h3, P.same h4 z⟩
  ins := fun {H d s own} h => by
    obtain ⟨dx, v, hd⟩ := desk_ins h
    exact ⟨dx, _, hd, kF_no v (by decide +kernel)⟩
  upd := fun {H d s own b xs ys} h z e => by
    obtain ⟨dx, v, hd⟩ := desk_ins h
    have nb : d ≠ b := ne_of hd e (fun y => nomatch y)
    cases s with
    | none => obtain ⟨dx, h1, h2⟩ := h; exact ⟨dx, (upd_ne nb).trans h1, h2⟩
    | some m =>
      obtain ⟨dx, c, o, h1, rfl, h3, h4⟩ := h
      rw [own1_ne nb.symm] at z
      exact ⟨dx, c, o, (upd_ne nb).trans h1, rfl, h3, P.upd h4 z e (fun _ _ y => nomatch y)⟩
theorem desk_owns {CK : Addr} {C : CT} {H : Hp} {d : Addr} {s : Sj50.State} {own : Owns} (h : DeskAt CK C H d s own) : own d ≠ none := by
  cases s with
  | none =>
    obtain ⟨dx, _, rfl⟩ := h
    rw [own1_same]
    exact fun y => nomatch y
  | some m =>
    obtain ⟨dx, c, o, _, rfl, _⟩ := h
    rw [own1_same]
    exact fun y => nomatch y
theorem ranges_short (n : Int) : (rangesOf n).length ≤ 1000 := by
  unfold rangesOf
  repeat' split
  all_goals decide
/-- a call on a card: f(card, numbers) -/
def spOn (CD : Addr) (C : CT) (n : Int) : Sp := fun vs H Q _ => ∃ (c q : Addr) (m : Sj50.Card) (own : Owns) (xs : List Int) (k : Sj50.Call), vs = [.ref c, .ref q] ∧ C H c m own ∧ own q = none ∧ H q = some (.lst (xs.map V.int)) ∧
  Sj50Neutral.callOf (n :: xs) = some k ∧ within (rangesOf n) xs = true ∧
  ∀ (H' : Hp) (own' : Owns) (t : Addr), C H' c (Sj50.on m k).1 own' → COutW CD H H' own → CNew H own own' → own' t = none → Fresh H own t → H' t = some (.lst (((Sj50.on m k).2.v :: (Sj50.on m k).2.l).map V.int)) → Q (.ref t) H'
/-- Card(k, many, late) -/
def spCardInit (CC : Addr) (C : CT) : Sp := fun vs H Q _ => ∃ (c dx : Addr) (k m l : Int), vs = [.ref c, .int k, .int m, .int l] ∧ H c = some (.ins CC dx []) ∧ (1 ≤ k ∧ k ≤ 6) ∧ (1 ≤ m ∧ m ≤ 64) ∧ (1 ≤ l ∧ l ≤ 1000) ∧
  ∀ (H' : Hp) (own : Owns), C H' c (Sj50.made k.toNat m.toNat l.toNat) own → (∀ b o, H b = some o → b ≠ c → H' b = some o) → (∀ b, own b ≠ none → b = c ∨ H b = none) → Q .non H'
structure KTxt (P : Program) (w : World) (K : PySem.W.Frag) (mg : Str → Option Value) (base : Heap) (j : Nat) (CD CK CC aR aC fT : Addr) (C : CT) : Prop where
  cl : Cls K CK
  nC : NoAttr K CK "card"
  gO : ∃ t, mg "OPENING" = some (.int 1 t)
  gN : ∃ t, mg "NO_CARD" = some (.int (-7) t)
  gW : ∃ t, mg "WRONG_NUMBER" = some (.int (-2) t)
  gT : mg "are_as_told" = some (.ref fT)
  kT : PySem.W.keepIn K (.ref fT) = true
  gC : mg "Card" = some (.ref CC)
  gA : mg "CALLS_ON_CARD" = some (.ref aC)
  ranges : ∀ n : Int, 1 ≤ n → n ≤ 15 → ∃ v, KDI K aR n v ∧ WRanges K v (rangesOf n)
  on : ∀ n : Int, 2 ≤ n → n ≤ 15 → ∃ f, KDI K aC n (.ref f) ∧ Held P w K mg base j f (spOn CD C n)
section
variable {P : Program} {w : World} {K : PySem.W.Frag} {mg : Str → Option Value} {base : Heap} {j : Nat} {CK CC CD aR aC fT : Addr} {C : CT}
theorem scDInit : FnScope ["self"] ["self"] (defScope sDInit) := ⟨rfl, rfl, rfl, by decide +kernel, rfl, by decide +kernel, by decide +kernel⟩
theorem ok_dinit {f : Addr} {fd : FuncData} (F : Fun K "__init__" "Desk.__init__" sDInit f fd) (T : KTxt P w K mg base j CD CK CC aR aC fT C) : FnOk P w K mg base CX0 1 f fd ["self"] (spDeskInit CK (DeskAt CK C)) := by
  refine F.ok scDInit (fun vs H Q E h => ?_) (fun cdv A outer s H vs Q E hr h => ?_)
  · obtain ⟨d, dx, rfl, _⟩ := h
    rfl
  · obtain ⟨d, dx, rfl, hd, k⟩ := h
    refine ⟨_, pss_one (ps_fld (pv 0) pe_non rfl), ?_⟩
    refine ⟨_, rfl, d, CK, dx, [], rfl, hd, T.cl, T.nC, (by show 0 < 1000; decide), ?_⟩
    refine k _ (own1 (fun _ => none) d 20) ⟨dx, upd_same, rfl⟩ (fun b o e n => (upd_ne n).trans e) fun b z => ?_
    by_cases e : b = d
    · exact e
    · rw [own1_ne e] at z
      exact absurd rfl z
theorem scDAns : FnScope ["self", "call", "numbers"] ["self", "call", "numbers"] (defScope sDAns) := ⟨rfl, rfl, rfl, by decide +kernel, rfl, by decide +kernel, by decide +kernel⟩
theorem ok_dans {f fI : Addr} {fd fdT fdI : FuncData} (F : Fun K "answer" "Desk.answer" sDAns f fd) (T : KTxt P w K mg base (j + 2) CD CK CC aR aC fT C) (CPr : CardP CD C) (hne : CK ≠ CD)
    (GT : FnOk P w K mg base CX0 1 fT fdT ["call", "numbers"] (spTold K aR)) (bT : Binds K fdT ["call", "numbers"] [])
    (MC : Mk K CC fI) (GI : FnOk P w K mg base CX0 (j + 1) fI fdI ["self", "k", "many", "late"] (spCardInit CC C)) (bI : Binds K fdI ["self", "k", "many", "late"] []) :
    FnOk P w K mg base CX0 (j + 3) f fd ["self", "call", "numbers"] (spDesk CD (DeskAt CK C)) := by
  refine F.ok scDAns (fun vs H Q E h => ?_) (fun cdv A outer s H vs Q E hr h => ?_)
  · obtain ⟨d, q, s, own, n, xs, rfl, _⟩ := h
    rfl
  · obtain ⟨d, q, s, own, n, xs, rfl, DD, oq, hq, hcall, k⟩ := h
    obtain ⟨tO, gO⟩ := T.gO
    obtain ⟨tN, gN⟩ := T.gN
    obtain ⟨tW, gW⟩ := T.gW
    obtain ⟨hn1, hn2, hlen⟩ := callOf_num hcall
    obtain ⟨qc, hqc⟩ := Option.isSome_iff_exists.mp hcall
    rw [neutral_step hqc] at k
    obtain ⟨vR, hvR, hwR⟩ := T.ranges n hn1 hn2
    refine ⟨_, pss_cons (ps_if (PW.pt (pw_and (pt_cmpR op_isN (pe_fld (pv 0) rfl) pe_non (nomark _)) (pw_and1 (pt_cmpR op_ne (pv 1) (pe_glob (v := .int 1) rfl gO ⟨_, rfl⟩) (nomark _)))))
        (pss_one (ps_ret (pe_lst (pa_cons (pe_glob (v := .int (-7)) rfl gN ⟨_, rfl⟩) pa_nil)))) pss_nil)
      (pss_cons (ps_if (pt_not (pt_val (pe_call GT (hr.mono (by omega)) rfl T.gT T.kT bT .nil pass0 (pa_cons (pv 1) (pa_cons (pv 2) pa_nil)))))
        (pss_one (ps_ret (pe_lst (pa_cons (pe_glob (v := .int (-2)) rfl gW ⟨_, rfl⟩) pa_nil)))) pss_nil)
      (pss_cons (ps_if (pt_cmpR op_eq (pv 1) (pe_glob (v := .int 1) rfl gO ⟨_, rfl⟩) (nomark _))
        (pss_cons (ps_fld (pv 0) (pe_make MC GI hr rfl T.gC bI .nil pass0 (pa_cons (pe_ix ix_list (pv 2) pe_int (fun _ _ => rfl)) (pa_cons (pe_ix ix_list (pv 2) pe_int (fun _ _ => rfl)) (pa_cons (pe_ix ix_list (pv 2) pe_int (fun _ _ => rfl)) pa_nil)))) rfl)
          (pss_one (ps_ret (pe_lst (pa_cons pe_int pa_nil))))) pss_nil)
      (pss_one (ps_ret (pe_callH hr (pe_ix ix_kdi (pe_glob (v := .ref aC) rfl T.gA rfl) (pv 1) (fun _ _ => rfl)) (pa_cons (pe_fld (pv 0) rfl) (pa_cons (pv 2) pa_nil))))))), ?_⟩
    obtain ⟨dx, v, hd⟩ := desk_ins DD
    refine ⟨_, rfl, d, CK, dx, _, _, rfl, hd, T.cl, T.nC, kF_card v, rfl, ?_⟩
    have hstep1 : ∀ {y : Addr}, H y = none → own y = none := fun {y} e => by
      cases z : own y with
      | none => rfl
      | some t => exact absurd e ((deskP hne CPr).live DD (by rw [z]; exact fun u => nomatch u))
    -- an answer of one number, nothing changed
    have one : ∀ (z : Int), Sj50.step s qc = (s, Sj50.just z) → ∀ p, H p = none → Q (.ref p) (upd H p (.lst [.int z])) := fun z e p hp => by
      rw [e] at k
      exact k _ own p ((deskP hne CPr).same DD (Same.upd hp)) (fun b o eb _ => .inl ((upd_ne (ne_of_none eb hp)).trans eb)) (CNew.refl _ _) (hstep1 hp) (fun b o e _ => ne_of_none e hp) upd_same
    have hvs : v = .non ↔ s = none := by
      cases s with
      | none =>
        obtain ⟨dx', h1, _⟩ := DD
        rw [hd] at h1
        have h1 := Option.some.inj h1
        injection h1 with _ _ h1
        injection h1 with h1 _
        injection h1 with _ h1
        exact ⟨fun _ => rfl, fun _ => h1⟩
      | some m =>
        obtain ⟨dx', c, o, h1, _⟩ := DD
        rw [hd] at h1
        have h1 := Option.some.inj h1
        injection h1 with _ _ h1
        injection h1 with h1 _
        injection h1 with _ h1
        exact ⟨fun e => (by rw [h1] at e; cases e), fun e => (by cases e)⟩
    have hfin : ¬ (s = none ∧ n ≠ 1) → True := fun _ => trivial
    by_cases h7 : s = none ∧ n ≠ 1
    · have hv : v = .non := hvs.mpr h7.1
      refine ⟨_, rfl, ?_⟩
      rw [decide_eq_true hv]
      refine iteT ⟨_, rfl, rfl, _, rfl, ?_⟩
      rw [decide_eq_false (show ¬ V.int n = V.int 1 from fun e => h7.2 (by injection e))]
      refine iteT ⟨(by decide), fun p hp => one _ ?_ p hp⟩
      rw [h7.1]
      exact step_none (callOf_other hqc h7.2)
    by_cases hv : v = .non
    · have hs := hvs.mp hv
      have hn : n = 1 := Classical.byContradiction fun e => h7 ⟨hs, e⟩
      refine ⟨_, rfl, ?_⟩
      rw [decide_eq_true hv]
      refine iteT ⟨_, rfl, rfl, _, rfl, ?_⟩
      rw [decide_eq_true (show V.int n = V.int 1 by rw [hn])]
      refine iteF ?_
      refine ⟨_, rfl, _, rfl, n, q, xs, vR, rangesOf n, rfl, SqL.of hq, hvR, hwR, hlen, ranges_short n, _, rfl, ?_⟩
      by_cases hw : within (rangesOf n) xs = true
      · rw [hw]
        refine iteF ⟨_, rfl, rfl, _, rfl, ?_⟩
        by_cases hn : n = 1
        · rw [decide_eq_true (show V.int n = V.int 1 by rw [hn])]
          subst hn
          obtain ⟨ka, ma, la, rfl, rfl⟩ := callOf_open hqc
          simp [rangesOf, within] at hw
          refine iteT ⟨_, rfl, q, _, _, _, rfl, rfl, SqL.of hq, rfl, _, rfl, q, _, _, _, rfl, rfl, SqL.of hq, rfl, _, rfl, q, _, _, _, rfl, rfl, SqL.of hq, rfl, ?_⟩
          intro c dc nc ndc nec
          have ndd : d ≠ c := ne_of_none hd nc
          refine ⟨c, dc, ka, ma, la, rfl, upd_same, by omega, by omega, by omega, fun H1 ow1 hC kp hnew => ⟨rfl, ?_⟩⟩
          have hk1 : ∀ b o, H b = some o → H1 b = some o := fun b o e => kp b o ((upd_ne (ne_of_none e nc)).trans ((upd_ne (ne_of_none e ndc)).trans e)) (ne_of_none e nc)
          have hd1 := hk1 _ _ hd
          have hof : ∀ b, ow1 b ≠ none → H b = none := fun b z => by
            rcases hnew b z with e | e
            · rw [e]; exact nc
            · cases y : H b with
              | none => rfl
              | some o =>
                rw [(upd_ne (ne_of_none y nc)).trans ((upd_ne (ne_of_none y ndc)).trans y)] at e
                cases e
          have od1 : ow1 d = none := by
            cases z : ow1 d with
            | none => rfl
            | some t =>
              have := hof d (by rw [z]; exact fun u => nomatch u)
              rw [hd] at this
              cases this
          refine ⟨_, rfl, d, CK, dx, _, rfl, hd1, T.cl, T.nC, (by show 1 < 1000; decide), (by decide), fun p hp => ?_⟩
          rw [kF_put] at hp ⊢
          have hp1 : H1 p = none := by
            have ne : p ≠ d := fun e => by rw [e, upd_same] at hp; cases hp
            rw [upd_ne ne] at hp
            exact hp
          have hp0 : H p = none := by
            cases y : H p with
            | none => rfl
            | some o => rw [hk1 _ _ y] at hp1; cases hp1
          have hst : Sj50.step s (.open_ ka ma la) = (some (Sj50.made ka.toNat ma.toNat la.toNat), Sj50.just 0) := by
            show (if _ then _ else _) = _
            rw [if_neg (by simp [Sj50.isIn]; omega)]
          rw [hst] at k
          have hod : own d ≠ none := desk_owns DD
          have npd : p ≠ d := (ne_of_none hd hp0).symm
          have opn : ow1 p = none := by
            cases z : ow1 p with
            | none => rfl
            | some t => exact absurd hp1 (CPr.live hC (by rw [z]; exact fun u => nomatch u))
          refine k _ (own1 ow1 d 20) p ⟨dx, c, ow1, (upd_ne npd.symm).trans upd_same, rfl, od1, CPr.same (CPr.upd hC od1 hd1 (fun _ _ e => hne (by injection e))) (Same.upd hp)⟩ (fun b o e z => ?_) (fun b z y => ?_) ((own1_ne npd).trans opn) (fun b o e _ => ne_of_none e hp0) upd_same
          · have nb : b ≠ d := fun e' => by rw [e'] at z; exact hod z
            rw [upd_ne (ne_of_none e hp0), upd_ne nb]
            exact .inl (hk1 _ _ e)
          · by_cases e : b = d
            · rw [e] at z; exact absurd z hod
            · rw [own1_ne e] at y
              exact hof b y
        · rw [decide_eq_false (show ¬ V.int n = V.int 1 from fun e => hn (by injection e))]
          refine iteF ?_
          obtain ⟨fn, hfn, hHeld⟩ := T.on n (by omega) hn2
          refine ⟨_, rfl, aC, n, _, rfl, rfl, hfn, fn, _, rfl, hHeld, _, rfl, d, CK, dx, _, _, rfl, hd, T.cl, T.nC, kF_card v, _, rfl, ?_⟩
          cases s with
          | none => exact absurd ⟨rfl, hn⟩ h7
          | some m =>
            obtain ⟨dx', c, o, h1, rfl, h3, h4⟩ := DD
            have e1 : v = .ref c := by
              rw [hd] at h1
              have h1 := Option.some.inj h1
              injection h1 with _ _ h1
              injection h1 with h1 _
              injection h1 with _ h1
            subst e1
            rw [step_some (callOf_other hqc hn)] at k
            have nqd : q ≠ d := ne_of hq hd (fun e => nomatch e)
            rw [own1_ne nqd] at oq
            refine ⟨c, q, m, o, xs, qc, rfl, h4, oq, hq, hqc, hw, fun H' own' t hC co cn ot ht hct => ?_⟩
            have hd' := co.keep hd h3 (fun _ _ e => hne (by injection e))
            have od' : own' d = none := by
              cases z : own' d with
              | none => rfl
              | some u =>
                have := cn d h3 (by rw [z]; exact fun y => nomatch y)
                rw [hd] at this
                cases this
            have ntd : t ≠ d := (ht d _ hd h3).symm
            refine k _ (own1 own' d 20) t ⟨dx, c, own', hd', rfl, od', hC⟩ (fun b u e z => ?_) (fun b z y => ?_) ((own1_ne ntd).trans ot) (fun b u e z => ht b u e (by rw [own1_ne fun e' => by rw [e', own1_same] at z; cases z] at z; exact z)) hct
            · have nb : b ≠ d := fun e' => by rw [e', own1_same] at z; cases z
              rw [own1_ne nb] at z
              exact co b u e z
            · have nb : b ≠ d := fun e' => by rw [e', own1_same] at z; cases z
              rw [own1_ne nb] at z y
              exact cn b z y
      · have hw' : within (rangesOf n) xs = false := by
          cases e : within (rangesOf n) xs with
          | true => exact absurd e hw
          | false => rfl
        rw [hw']
        refine iteT ⟨(by decide), fun p hp => one _ ?_ p hp⟩
        by_cases hn : n = 1
        · subst hn
          obtain ⟨ka, ma, la, rfl, rfl⟩ := callOf_open hqc
          simp [rangesOf, within] at hw'
          show (if _ then _ else _) = _
          rw [if_pos (by simp [Sj50.isIn]; omega)]
        · cases s with
          | none => exact absurd ⟨rfl, hn⟩ h7
          | some m => rw [step_some (callOf_other hqc hn), on_bad m hqc hn hw']
    · refine ⟨_, rfl, ?_⟩
      rw [decide_eq_false hv]
      refine iteF (iteF ?_)
      refine ⟨_, rfl, _, rfl, n, q, xs, vR, rangesOf n, rfl, SqL.of hq, hvR, hwR, hlen, ranges_short n, _, rfl, ?_⟩
      by_cases hw : within (rangesOf n) xs = true
      · rw [hw]
        refine iteF ⟨_, rfl, rfl, _, rfl, ?_⟩
        by_cases hn : n = 1
        · rw [decide_eq_true (show V.int n = V.int 1 by rw [hn])]
          subst hn
          obtain ⟨ka, ma, la, rfl, rfl⟩ := callOf_open hqc
          simp [rangesOf, within] at hw
          refine iteT ⟨_, rfl, q, _, _, _, rfl, rfl, SqL.of hq, rfl, _, rfl, q, _, _, _, rfl, rfl, SqL.of hq, rfl, _, rfl, q, _, _, _, rfl, rfl, SqL.of hq, rfl, ?_⟩
          intro c dc nc ndc nec
          have ndd : d ≠ c := ne_of_none hd nc
          refine ⟨c, dc, ka, ma, la, rfl, upd_same, by omega, by omega, by omega, fun H1 ow1 hC kp hnew => ⟨rfl, ?_⟩⟩
          have hk1 : ∀ b o, H b = some o → H1 b = some o := fun b o e => kp b o ((upd_ne (ne_of_none e nc)).trans ((upd_ne (ne_of_none e ndc)).trans e)) (ne_of_none e nc)
          have hd1 := hk1 _ _ hd
          have hof : ∀ b, ow1 b ≠ none → H b = none := fun b z => by
            rcases hnew b z with e | e
            · rw [e]; exact nc
            · cases y : H b with
              | none => rfl
              | some o =>
                rw [(upd_ne (ne_of_none y nc)).trans ((upd_ne (ne_of_none y ndc)).trans y)] at e
                cases e
          have od1 : ow1 d = none := by
            cases z : ow1 d with
            | none => rfl
            | some t =>
              have := hof d (by rw [z]; exact fun u => nomatch u)
              rw [hd] at this
              cases this
          refine ⟨_, rfl, d, CK, dx, _, rfl, hd1, T.cl, T.nC, (by show 1 < 1000; decide), (by decide), fun p hp => ?_⟩
          rw [kF_put] at hp ⊢
          have hp1 : H1 p = none := by
            have ne : p ≠ d := fun e => by rw [e, upd_same] at hp; cases hp
            rw [upd_ne ne] at hp
            exact hp
          have hp0 : H p = none := by
            cases y : H p with
            | none => rfl
            | some o => rw [hk1 _ _ y] at hp1; cases hp1
          have hst : Sj50.step s (.open_ ka ma la) = (some (Sj50.made ka.toNat ma.toNat la.toNat), Sj50.just 0) := by
            show (if _ then _ else _) = _
            rw [if_neg (by simp [Sj50.isIn]; omega)]
          rw [hst] at k
          have hod : own d ≠ none := desk_owns DD
          have npd : p ≠ d := (ne_of_none hd hp0).symm
          have opn : ow1 p = none := by
            cases z : ow1 p with
            | none => rfl
            | some t => exact absurd hp1 (CPr.live hC (by rw [z]; exact fun u => nomatch u))
          refine k _ (own1 ow1 d 20) p ⟨dx, c, ow1, (upd_ne npd.symm).trans upd_same, rfl, od1, CPr.same (CPr.upd hC od1 hd1 (fun _ _ e => hne (by injection e))) (Same.upd hp)⟩ (fun b o e z => ?_) (fun b z y => ?_) ((own1_ne npd).trans opn) (fun b o e _ => ne_of_none e hp0) upd_same
          · have nb : b ≠ d := fun e' => by rw [e'] at z; exact hod z
            rw [upd_ne (ne_of_none e hp0), upd_ne nb]
            exact .inl (hk1 _ _ e)
          · by_cases e : b = d
            · rw [e] at z; exact absurd z hod
            · rw [own1_ne e] at y
              exact hof b y
        · rw [decide_eq_false (show ¬ V.int n = V.int 1 from fun e => hn (by injection e))]
          refine iteF ?_
          obtain ⟨fn, hfn, hHeld⟩ := T.on n (by omega) hn2
          refine ⟨_, rfl, aC, n, _, rfl, rfl, hfn, fn, _, rfl, hHeld, _, rfl, d, CK, dx, _, _, rfl, hd, T.cl, T.nC, kF_card v, _, rfl, ?_⟩
          cases s with
          | none => exact absurd ⟨rfl, hn⟩ h7
          | some m =>
            obtain ⟨dx', c, o, h1, rfl, h3, h4⟩ := DD
            have e1 : v = .ref c := by
              rw [hd] at h1
              have h1 := Option.some.inj h1
              injection h1 with _ _ h1
              injection h1 with h1 _
              injection h1 with _ h1
            subst e1
            rw [step_some (callOf_other hqc hn)] at k
            have nqd : q ≠ d := ne_of hq hd (fun e => nomatch e)
            rw [own1_ne nqd] at oq
            refine ⟨c, q, m, o, xs, qc, rfl, h4, oq, hq, hqc, hw, fun H' own' t hC co cn ot ht hct => ?_⟩
            have hd' := co.keep hd h3 (fun _ _ e => hne (by injection e))
            have od' : own' d = none := by
              cases z : own' d with
              | none => rfl
              | some u =>
                have := cn d h3 (by rw [z]; exact fun y => nomatch y)
                rw [hd] at this
                cases this
            have ntd : t ≠ d := (ht d _ hd h3).symm
            refine k _ (own1 own' d 20) t ⟨dx, c, own', hd', rfl, od', hC⟩ (fun b u e z => ?_) (fun b z y => ?_) ((own1_ne ntd).trans ot) (fun b u e z => ht b u e (by rw [own1_ne fun e' => by rw [e', own1_same] at z; cases z] at z; exact z)) hct
            · have nb : b ≠ d := fun e' => by rw [e', own1_same] at z; cases z
              rw [own1_ne nb] at z
              exact co b u e z
            · have nb : b ≠ d := fun e' => by rw [e', own1_same] at z; cases z
              rw [own1_ne nb] at z y
              exact cn b z y
      · have hw' : within (rangesOf n) xs = false := by
          cases e : within (rangesOf n) xs with
          | true => exact absurd e hw
          | false => rfl
        rw [hw']
        refine iteT ⟨(by decide), fun p hp => one _ ?_ p hp⟩
        by_cases hn : n = 1
        · subst hn
          obtain ⟨ka, ma, la, rfl, rfl⟩ := callOf_open hqc
          simp [rangesOf, within] at hw'
          show (if _ then _ else _) = _
          rw [if_pos (by simp [Sj50.isIn]; omega)]
        · cases s with
          | none => exact absurd ⟨rfl, hn⟩ h7
          | some m => rw [step_some (callOf_other hqc hn), on_bad m hqc hn hw']
end
end Rg

namespace Rg
open PySem PySem.Spec PyProof.Rows L2
abbrev sCWrite : Stmt := inClass (top 16) 1
abbrev sCPost : Stmt := inClass (top 16) 2
abbrev sCReap : Stmt := inClass (top 16) 3
structure CTxt (K : PySem.W.Frag) (mg : Str → Option Value) (CD CR CC CU : Addr) : Prop where
  cl : Cls K CC
  na : ∀ x, x ∈ cN → NoAttr K CC x
  len : mg "len" = none
  R : RTxt K mg CD CR
  DT : DTxt K CD
  U : UTxt K CD CU
  ne : CC ≠ CD
def M.write (m : M) (b : Nat) (x : Sj50.Bytes) : M := { m with bufs := m.bufs.set b (Sj50.over (m.bufs.getD b []) x) }
/-- card.write(buffer, data) -/
def spWrite (CD CR CC CU : Addr) : Sp := fun vs H Q _ => ∃ (c q : Addr) (m : M) (own : Owns) (L : Lay) (b : Nat) (x : Sj50.Bytes), vs = [.ref c, .int (b : Int), .ref q] ∧ CardL CD CR CC CU H c m own L ∧ b < m.bufs.length ∧ (m.bufs.getD b []).length ≤ 256 ∧ x.length ≤ 256 ∧ H q = some (.lst (bV x)) ∧
  ∀ H' own' L', CardL CD CR CC CU H' c (m.write b x) own' L' → L'.ra = L.ra → (∀ a o t, own a = some t → 10 ≤ t → H a = some o → H' a = some o) → COut H H' own → CNew H own own' → Q .non H'
section
variable {P : Program} {w : World} {K : PySem.W.Frag} {mg : Str → Option Value} {base : Heap} {CD CR CC CU : Addr}
theorem ixN_nat {n k : Nat} (h : k < n) : ixN n (k : Int) = some k := by
  unfold ixN
  rw [if_pos (by omega), if_pos (by omega)]
  simp
theorem getD_some {α : Type} {l : List α} {i : Nat} {z : α} (h : i < l.length) : l[i]? = some (l.getD i z) := by
  rw [List.getD_eq_getElem?_getD, List.getElem?_eq_getElem h]
  rfl
theorem scCWrite : FnScope ["self", "buffer", "data"] ["self", "buffer", "data"] (defScope sCWrite) := ⟨rfl, rfl, rfl, by decide +kernel, rfl, by decide +kernel, by decide +kernel⟩
theorem ok_write {f : Addr} {fd : FuncData} (F : Fun K "write" "Card.write" sCWrite f fd) (T : CTxt K mg CD CR CC CU) : FnOk P w K mg base CX0 1 f fd ["self", "buffer", "data"] (spWrite CD CR CC CU) := by
  refine F.ok scCWrite (fun vs H Q E h => ?_) (fun cdv A outer s H vs Q E hr h => ?_)
  · obtain ⟨c, q, m, own, L, b, x, rfl, _⟩ := h
    rfl
  · obtain ⟨c, q, m, own, L, b, x, rfl, h, hb, hl, hx, hq, k⟩ := h
    obtain ⟨ba, hba, hbb⟩ := Paired.get h.hba (getD_some (z := []) hb)
    have hbl : L.bas.length = m.bufs.length := Paired.len h.hba
    refine ⟨_, pss_one (ps_asg (pe_op op_cat (pv 2) (pe_slice sl_list (pe_ix ix_list (pe_fld (pv 0) rfl) (pv 1) (fun _ _ => rfl)) (po_some (pe_callB call_len_seq (by rfl) T.len PySem.boot_len (pa_cons (pv 2) pa_nil))) po_none)) (pg_sub (pe_fld (pv 0) rfl) (pv 1) set_list)), ?_⟩
    refine ⟨_, rfl, _, rfl, c, CC, L.dx, _, _, rfl, h.hc, T.cl, T.na _ (by decide +kernel), lk_zip (i := 1) (by decide +kernel) rfl, _, rfl, L.bl, _, _, _, rfl, rfl, SqL.of h.hbl, atI_nat (v := .ref ba) (by rw [List.getElem?_map, hba]; rfl),
      _, rfl, q, _, rfl, .inl (SqL.of hq), _, rfl, ba, _, rfl, SqL.of hbb, fun p1 hp1 => ?_⟩
    have s1 : Same H (upd H p1 (.lst (cutV (bV (m.bufs.getD b [])) (some ((bV x).length : Int)) none))) := Same.upd hp1
    refine ⟨q, p1, _, _, rfl, rfl, s1 _ _ hq, upd_same, ?_, fun p2 hp2 => ?_⟩
    · have := cutV_length (bV (m.bufs.getD b [])) (some ((bV x).length : Int)) none
      rw [bV_len (m.bufs.getD b [])] at this
      have h1 := bV_len x
      exact Nat.le_trans (show _ ≤ 512 by omega) (by decide)
    have e2 : bV x ++ cutV (bV (m.bufs.getD b [])) (some ((bV x).length : Int)) none = bV (Sj50.over (m.bufs.getD b []) x) := by
      unfold Sj50.over
      rw [bV_app, bV_drop, cut_from (by omega), bV_len]
      rfl
    rw [e2]
    have s2 := Same.upd (o := .lst (bV (Sj50.over (m.bufs.getD b []) x))) hp2
    have h2 := (h.same s1).same s2
    have hp0 : H p2 = none := s1.free hp2
    have op2 : own p2 = none := h.unowned hp0
    have h3 := h2.adopt (t := 5) op2 upd_same trivial
    refine ⟨_, rfl, c, CC, L.dx, _, _, rfl, h2.hc, T.cl, T.na _ (by decide +kernel), lk_zip (i := 1) (by decide +kernel) rfl, _, rfl, L.bl, _, _, b, rfl, rfl, h2.hbl, ixN_nat (by rw [List.length_map]; omega), ?_⟩
    rw [← List.map_set]
    refine k _ _ _ (h3.bufU (k := b) own1_same upd_same) rfl (fun y o t e ht z => ?_) (fun y o e z => ?_) (CNew.own1 (.inl hp0))
    · rw [upd_ne fun e' => by rw [e', h.obl] at e; have := Option.some.inj e; omega]
      exact s2 _ _ (s1 _ _ z)
    · rw [upd_ne fun e' => by rw [e', h.obl] at z; cases z]
      exact s2 _ _ (s1 _ _ e)
def M.post (m : M) (i : Nat) (d : Sj50.Desc) : M := { m with mine := m.mine.set d.buf false, ring := upd1 m.ring i { m.ring i with posted := (m.ring i).posted ++ [d] } }
theorem upd1_self {α : Type} {f : Nat → α} {i : Nat} : upd1 f i (f i) = f := funext fun j => by
  unfold upd1
  split
  · rename_i e; rw [e]
  · rfl
/-- card.post(ring, descriptor) -/
def spPost (CD CR CC CU : Addr) : Sp := fun vs H Q _ => ∃ (c x : Addr) (m : M) (own : Owns) (i : Nat) (d : Sj50.Desc), vs = [.ref c, .int (i : Int), .ref x] ∧ CardAt CD CR CC CU H c m own ∧ i < 5 ∧ DescV CD H (.ref x) d ∧ d.buf < m.mine.length ∧ (m.ring i).used ≤ 1000 ∧
  ∀ H' own', CardAt CD CR CC CU H' c (m.post i d) own' → COut H H' own → CNew H own own' → Q .non H'
theorem scCPost : FnScope ["self", "ring", "descriptor"] ["self", "ring", "descriptor"] (defScope sCPost) := ⟨rfl, rfl, rfl, by decide +kernel, rfl, by decide +kernel, by decide +kernel⟩
theorem ok_post {f : Addr} {fd : FuncData} (F : Fun K "post" "Card.post" sCPost f fd) (T : CTxt K mg CD CR CC CU) : FnOk P w K mg base CX0 1 f fd ["self", "ring", "descriptor"] (spPost CD CR CC CU) := by
  refine F.ok scCPost (fun vs H Q E h => ?_) (fun cdv A outer s H vs Q E hr h => ?_)
  · obtain ⟨c, x, m, own, i, d, rfl, _⟩ := h
    rfl
  · obtain ⟨c, x, m, own, i, d, rfl, ⟨L, h⟩, hi, ⟨x', dxd, ex, hd⟩, hb, hu, k⟩ := h
    obtain rfl : x = x' := by injection ex
    refine ⟨_, pss_cons (ps_asg pe_bl (pg_sub (pe_fld (pv 0) rfl) (pe_fld (pv 2) rfl) set_list)) (pss_one (ps_expr (pe_bm PySem.F.plainAttrs_list PySem.F.slot_list_append PySem.F.type_list_append mt_append (pe_fld (pe_ix ix_list (pe_fld (pv 0) rfl) (pv 1) (fun _ _ => rfl)) rfl) (pa_cons (pv 2) pa_nil)))), ?_⟩
    refine ⟨_, rfl, c, CC, L.dx, _, _, rfl, h.hc, T.cl, T.na _ (by decide +kernel), lk_zip (i := 2) (by decide +kernel) rfl, _, rfl, x, CD, dxd, _, _, rfl, hd, T.DT.cl, T.DT.nB, dF_buffer d, L.ml, _, _, d.buf, rfl, rfl, h.hml, ixN_nat (by rw [List.length_map]; exact hb), ?_⟩
    rw [← List.map_set]
    have h1 := h.mineU (l := m.mine.set d.buf false)
    have co1 := h.outU (o := .lst ((m.mine.set d.buf false).map V.bl)) h.oml
    have xo : own x = none := by
      cases z : own x with
      | none => rfl
      | some t =>
        obtain ⟨o, ho, hc⟩ := h.cells x t z
        rw [hd] at ho
        exact (hc.no (Option.some.inj ho).symm).elim
    have hd1 := co1 _ _ hd xo
    obtain ⟨rdx, p, rs, rd, rf, ps, ha, hp, hpl, hpF, hpost⟩ := (h1.hr i hi).post T.R.ne
    obtain ⟨R2, o2⟩ := hpost (.ref x) d ⟨x, dxd, rfl, hd1⟩
    have hu' : (m.ring i).posted.length + (m.ring i).seen.length + (m.ring i).done.length ≤ 1000 := hu
    have hat : ((List.range 5).map fun i => V.ref (L.ra i))[i]? = some (.ref (L.ra i)) := by
      rw [List.getElem?_map, List.getElem?_range hi]
      rfl
    refine ⟨_, rfl, c, CC, L.dx, _, _, rfl, h1.hc, T.cl, T.na _ (by decide +kernel), lk_zip (i := 3) (by decide +kernel) rfl, _, rfl, L.rl, _, _, _, rfl, rfl, SqL.of h1.hrl, atI_nat hat, L.ra i, CR, rdx, _, _, rfl, ha, T.R.cl, T.R.nP, rF_posted .., .inl ⟨rfl, _, SqL.of hp⟩, _, rfl, p, _, _, rfl, rfl, hp,
      Nat.lt_of_le_of_lt (show ps.length ≤ 1000 by rw [hpl]; show (m.ring i).posted.length ≤ 1000; omega) (by decide), ?_⟩
    obtain ⟨h2, co2, cn2⟩ := h1.ring T.R.ne hi R2 o2 (fun b hb => .inl hb)
    have em : ({ m with mine := m.mine.set d.buf false, ring := upd1 m.ring i { m.ring i with posted := (m.ring i).posted ++ [d] }, part := upd1 m.part i (m.part i) } : M) = m.post i d := by
      rw [upd1_self]
      rfl
    refine k _ _ ⟨_, em ▸ h2⟩ (COut.trans co1 (CNew.refl _ _) co2) (CNew.trans co1 (CNew.refl _ _) cn2)
end
end Rg

namespace Rg
open PySem PySem.Spec PyProof.Rows L2
theorem Paired.get' {α β : Type} {R : α → β → Prop} : ∀ {xs : List α} {ys : List β} {i : Nat} {x : α}, Paired R xs ys → xs[i]? = some x → ∃ y, ys[i]? = some y ∧ R x y
  | _, _, _, _, .nil, e => by simp at e
  | _, _, 0, _, .cons r _, e => by simp at e; subst e; exact ⟨_, rfl, r⟩
  | _, _, i + 1, y, .cons _ t, e => by
    obtain ⟨u, h1, h2⟩ := Paired.get' (i := i) (x := y) t (by simpa using e)
    exact ⟨u, by simpa using h1, h2⟩
theorem take_more {α : Type} : ∀ {l : List α} {i : Nat} {x : α}, l[i]? = some x → l.take (i + 1) = l.take i ++ [x]
  | [], i, x, h => by simp at h
  | a :: l, 0, x, h => by
    have e : a = x := Option.some.inj h
    subst e
    rfl
  | a :: l, i + 1, x, h => by
    have ih := take_more (l := l) (i := i) (x := x) h
    show a :: l.take (i + 1) = a :: l.take i ++ [x]
    rw [ih]
    rfl
def backs (ds : List Sj50.Desc) (l : List Bool) : List Bool := ds.foldl (fun a d => a.set d.buf true) l
theorem backs_len : ∀ {ds : List Sj50.Desc} {l : List Bool}, (backs ds l).length = l.length
  | [], _ => rfl
  | d :: ds, l => by
    show (backs ds (l.set d.buf true)).length = l.length
    rw [backs_len, List.length_set]
theorem backs_more {ds : List Sj50.Desc} {i : Nat} {d : Sj50.Desc} {l : List Bool} (h : ds[i]? = some d) : backs (ds.take (i + 1)) l = (backs (ds.take i) l).set d.buf true := by
  unfold backs
  rw [take_more h, List.foldl_append]
  rfl
def M.reap (m : M) (i : Nat) : M := { m with ring := upd1 m.ring i { m.ring i with done := [] }, mine := backs (m.ring i).done m.mine }
/-- card.reap(ring) -/
def spReap (CD CR CC CU : Addr) : Sp := fun vs H Q _ => ∃ (c : Addr) (m : M) (own : Owns) (i : Nat), vs = [.ref c, .int (i : Int)] ∧ CardAt CD CR CC CU H c m own ∧ i < 5 ∧ (∀ d ∈ (m.ring i).done, d.buf < m.mine.length) ∧
  ∀ H' own' t ds, CardAt CD CR CC CU H' c (m.reap i) own' → COut H H' own → CNew H own own' → own' t = none → H' t = some (.lst ds) → Descs CD H' ds (m.ring i).done → Q (.ref t) H'
section
variable {P : Program} {w : World} {K : PySem.W.Frag} {mg : Str → Option Value} {base : Heap} {CD CR CC CU : Addr}
theorem range5 {ra : Nat → Addr} {i : Nat} (hi : i < 5) : ((List.range 5).map fun i => V.ref (ra i))[i]? = some (.ref (ra i)) := by
  rw [List.getElem?_map, List.getElem?_range hi]
  rfl
theorem scCReap : FnScope ["self", "ring", "taken", "descriptor"] ["self", "ring"] (defScope sCReap) := ⟨rfl, rfl, rfl, by decide +kernel, rfl, by decide +kernel, by decide +kernel⟩
theorem ok_reap {f fT : Addr} {fd fdT : FuncData} (F : Fun K "reap" "Card.reap" sCReap f fd) (T : CTxt K mg CD CR CC CU) (FT : Fun K "take_done" "Ring.take_done" sRTake fT fdT) (bT : Binds K fdT ["self"] []) (mT : Meth K CR "take_done" fT) : FnOk P w K mg base CX0 2 f fd ["self", "ring"] (spReap CD CR CC CU) := by
  have GT : FnOk P w K mg base CX0 1 fT fdT ["self"] (spTake CD CR) := ok_take FT T.R
  refine F.ok scCReap (fun vs H Q E h => ?_) (fun cdv A outer s H vs Q E hr h => ?_)
  · obtain ⟨c, m, own, i, rfl, _⟩ := h
    rfl
  · obtain ⟨c, m, own, i, rfl, ⟨L, h⟩, hi, hb, k⟩ := h
    refine ⟨_, pss_cons (ps_set (i := 2) scCReap.nd rfl (Or.inl rfl) (pe_meth0 (pe_ix ix_list (pe_fld (pv 0) rfl) (pv 1) (fun _ _ => rfl)) T.R.cl mT GT hr bT .nil pass0))
      (pss_cons (ps_for PassesOwn.never rfl (pi_list (pv 2)) (pg_name (i := 3) scCReap.nd rfl (Or.inl rfl)) (pss_one (ps_asg pe_bl (pg_sub (pe_fld (pv 0) rfl) (pe_fld (pv 3) rfl) set_list))))
      (pss_one (ps_ret (pv 2)))), ?_⟩
    have R := h.hr i hi
    obtain ⟨rdx, rp, rs, rd, rf, _, _, _, _, _, ha, _⟩ := id R
    refine ⟨_, rfl, c, CC, L.dx, _, _, rfl, h.hc, T.cl, T.na _ (by decide +kernel), lk_zip (i := 3) (by decide +kernel) rfl, _, rfl, L.rl, _, _, _, rfl, rfl, SqL.of h.hrl, atI_nat (range5 hi), L.ra i, rdx, _, rfl, ha,
      rF_no _ _ _ _ _ (by decide +kernel) (by decide +kernel) (by decide +kernel) (by decide +kernel) (by decide +kernel), L.ra i, _, _, _, _, rfl, R, fun H1 F' t ds R1 o1 n1 tF tF' ht hds => ?_⟩
    obtain ⟨h1, co1, cn1⟩ := h.ring T.R.ne hi R1 o1 n1
    rw [upd1_self] at h1
    have ot : ownR own i (L.Fr i) F' t = none := by
      unfold ownR
      rw [if_neg tF', if_pos tF]
    have hlen := Paired.len hds
    refine ⟨_, rfl, t, rfl, ⟨_, SqL.of ht⟩, for_list (K := K) (a := t) (xs := ds) (fun n σ H' => ∃ v : Option V, σ = [some (.ref c), some (.int (i : Int)), some (.ref t), v] ∧
        CardL CD CR CC CU H' c { m with ring := upd1 m.ring i { m.ring i with done := [] }, mine := backs ((m.ring i).done.take n) m.mine } (ownR own i (L.Fr i) F') { L with Fr := upd1 L.Fr i F' } ∧ COut H1 H' (ownR own i (L.Fr i) F') ∧ H' t = some (.lst ds) ∧ Descs CD H' ds (m.ring i).done)
      ⟨none, rfl, h1, COut.refl _ _, ht, hds⟩ (fun n σ H' _ ⟨_, _, _, _, q, _⟩ => SqL.of q) ?_ ?_⟩
    · rintro n y σ H' hn ⟨v, rfl, h2, co2, ht2, hds2⟩
      obtain ⟨d, hd, x, dxx, rfl, hx⟩ := Paired.get' hds2 hn
      refine ⟨_, rfl, c, CC, L.dx, _, _, rfl, h2.hc, T.cl, T.na _ (by decide +kernel), lk_zip (i := 2) (by decide +kernel) rfl, _, rfl, x, CD, dxx, _, _, rfl, hx, T.DT.cl, T.DT.nB, dF_buffer d, L.ml, _, _, d.buf, rfl, rfl, h2.hml,
        ixN_nat (by rw [List.length_map, backs_len]; exact hb d (List.mem_of_getElem? hd)), ?_⟩
      rw [← List.map_set]
      have h3 := h2.mineU (l := (backs ((m.ring i).done.take n) m.mine).set d.buf true)
      have co3 := h2.outU (o := .lst (((backs ((m.ring i).done.take n) m.mine).set d.buf true).map V.bl)) h2.oml
      refine ⟨some (.ref x), rfl, ?_, fun b o e z => co3 b o (co2 b o e z) z, co3 _ _ ht2 ot, ?_⟩
      · rw [backs_more hd]
        exact h3
      · refine Descs.out (F := [L.ml]) (fun b q dx fs e => ?_) (fun b o e q => (upd_ne fun z => q (List.mem_singleton.mpr z)).trans e) hds2
        rw [List.mem_singleton.mp q] at e
        exact nomatch (Option.some.inj (h2.hml.symm.trans e))
    · rintro σ H' ⟨v, rfl, h2, co2, ht2, hds2⟩
      rw [hlen, List.take_length] at h2
      exact ⟨_, rfl, k _ _ t ds ⟨_, h2⟩ (COut.trans co1 cn1 co2) cn1 ot ht2 hds2⟩
end
end Rg

namespace Rg
open PySem PySem.Spec PyProof.Rows L2
abbrev sCWork : Stmt := inClass (top 16) 5
abbrev sCStep : Stmt := inClass (top 16) 6
abbrev sCServe : Stmt := inClass (top 16) 7
abbrev sCSend : Stmt := inClass (top 16) 8
abbrev sCFin : Stmt := inClass (top 16) 9
abbrev sMore : Stmt := top 12
def M.next (m : M) : Option Nat := ((List.range 4).map fun i => (m.turn + i) % 4).find? fun k => !(m.ring k).seen.isEmpty
def M.send (m : M) (k : Nat) (d : Sj50.Desc) (l : List Sj50.Desc) : M :=
  let f := (m.part k ++ (m.bufs.getD d.buf []).take d.len).take 4096
  let r := { m.ring k with seen := l, done := (m.ring k).done ++ [d] }
  if d.last = true then { m with ring := upd1 m.ring k r, part := upd1 m.part k [], out := m.out ++ [f], turn := (k + 1) % 4, sent := (m.sent + 1) % 2 ^ 32, since := m.since + 1 }
  else { m with ring := upd1 m.ring k r, part := upd1 m.part k f, turn := k, since := m.since + 1 }
def M.step (m : M) : Option M := match m.next with
  | none => none
  | some k => match (m.ring k).seen with
    | [] => none
    | d :: l => if d.last = true ∧ m.out.length = 16 then none else some (m.send k d l)
def M.works : Nat → M → Nat × M
  | 0, m => (0, m)
  | n + 1, m => match m.step with
    | none => (0, m)
    | some u => ((M.works n u).1 + 1, (M.works n u).2)
structure STxt (mg : Str → Option Value) : Prop where
  range : mg "range" = none
  g4 : ∃ t, mg "SENDING_RINGS" = some (.int 4 t)
  gM : ∃ t, mg "COUNT_MODULUS" = some (.int 4294967296 t)
  gF : ∃ t, mg "FRAMES_OUT" = some (.int 16 t)
  gN : ∃ t, mg "NO_RING" = some (.int (-1) t)
  gL : ∃ t, mg "LENDING_RING" = some (.int 4 t)
def optI : Option Nat → Int
  | none => -1
  | some k => (k : Int)
/-- card.ring_to_serve() -/
def spServe (CD CR CC CU : Addr) : Sp := fun vs H Q _ => ∃ (c : Addr) (m : M) (own : Owns), vs = [.ref c] ∧ CardAt CD CR CC CU H c m own ∧ Q (.int (optI m.next)) H
theorem find_at {α : Type} {p : α → Bool} : ∀ {l : List α} {i : Nat} {x : α}, l[i]? = some x → p x = true → (∀ j y, j < i → l[j]? = some y → p y = false) → l.find? p = some x
  | [], i, x, h, _, _ => by simp at h
  | a :: l, 0, x, h, hp, _ => by
    simp at h
    subst h
    rw [List.find?_cons, hp]
  | a :: l, i + 1, x, h, hp, hn => by
    rw [List.find?_cons, hn 0 a (by omega) rfl]
    exact find_at (i := i) (by simpa using h) hp fun j y hj e => hn (j + 1) y (by omega) (by simpa using e)
section
variable {P : Program} {w : World} {K : PySem.W.Frag} {mg : Str → Option Value} {base : Heap} {CD CR CC CU : Addr}
theorem scCServe : FnScope ["self", "ahead", "ring"] ["self"] (defScope sCServe) := ⟨rfl, rfl, rfl, by decide +kernel, rfl, by decide +kernel, by decide +kernel⟩
theorem ok_serve {f : Addr} {fd : FuncData} (F : Fun K "ring_to_serve" "Card.ring_to_serve" sCServe f fd) (T : CTxt K mg CD CR CC CU) (S : STxt mg) : FnOk P w K mg base CX0 1 f fd ["self"] (spServe CD CR CC CU) := by
  refine F.ok scCServe (fun vs H Q E h => ?_) (fun cdv A outer s H vs Q E hr h => ?_)
  · obtain ⟨c, m, own, rfl, _⟩ := h
    rfl
  · obtain ⟨c, m, own, rfl, ⟨L, h⟩, k⟩ := h
    obtain ⟨t4, g4⟩ := S.g4
    obtain ⟨tN, gN⟩ := S.gN
    refine ⟨_, pss_cons (ps_for PassesOwn.never rfl (pi_range1 rfl S.range (pa_cons (pe_glob (v := .int 4) rfl g4 ⟨_, rfl⟩) pa_nil)) (pg_name (i := 1) scCServe.nd rfl (Or.inl rfl))
        (pss_cons (ps_set (i := 2) scCServe.nd rfl (Or.inl rfl) (pe_op op_mod (pe_op op_add (pe_fld (pv 0) rfl) (pv 1)) (pe_glob (v := .int 4) rfl g4 ⟨_, rfl⟩)))
        (pss_one (ps_if (pt_cmpR op_gt (pe_callB call_len_seq (by rfl) T.len PySem.boot_len (pa_cons (pe_fld (pe_ix ix_list (pe_fld (pv 0) rfl) (pv 2) (fun _ _ => rfl)) rfl) pa_nil)) pe_int (nomark _)) (pss_one (ps_ret (pv 2))) pss_nil))))
      (pss_one (ps_ret (pe_glob (v := .int (-1)) rfl gN ⟨_, rfl⟩))), ?_⟩
    refine ⟨4, rfl, by decide, by decide, for_range (lo := 0) (n := 4) (fun i σ H' => ∃ (a b : Option V), σ = [some (.ref c), a, b] ∧ H' = H ∧ ∀ j, j < i → (m.ring ((m.turn + j) % 4)).seen = []) ⟨none, none, rfl, rfl, fun j z => absurd z (Nat.not_lt_zero _)⟩ ?_ ?_⟩
    · rintro i σ H' hi ⟨a, b, rfl, rfl, hj⟩
      have hk : (m.turn + i) % 4 < 5 := Nat.lt_trans (Nat.mod_lt _ (by decide)) (by decide)
      have ek : ((m.turn : Int) + (0 + (i : Int))) % 4 = (((m.turn + i) % 4 : Nat) : Int) := by omega
      obtain ⟨rdx, rp, rs, rd, rf, ps, ss, ds, _, _, ha, _, hs, _, _, _, hse, _⟩ := h.hr _ hk
      have hl := Paired.len hse
      refine ⟨_, rfl, c, CC, L.dx, _, _, rfl, h.hc, T.cl, T.na _ (by decide +kernel), lk_zip (i := 4) (by decide +kernel) rfl, _, rfl, _, _, rfl, rfl, _, _, rfl, rfl, (by show (0 : Int) < 4; decide), ?_⟩
      refine ⟨_, rfl, c, CC, L.dx, _, _, rfl, h.hc, T.cl, T.na _ (by decide +kernel), lk_zip (i := 3) (by decide +kernel) rfl, _, rfl, L.rl, _, _, _, rfl, rfl, SqL.of h.hrl, (by rw [ek]; exact atI_nat (range5 hk)), L.ra _, CR, rdx, _, _, rfl, ha, T.R.cl, T.R.nS, rF_seen .., rs, _, rfl, .inl (SqL.of hs), _, _, rfl, rfl, _, rfl, ?_⟩
      have hat : ((List.range 4).map fun i => (m.turn + i) % 4)[i]? = some ((m.turn + i) % 4) := by
        rw [List.getElem?_map, List.getElem?_range hi]
        rfl
      by_cases c0 : (m.ring ((m.turn + i) % 4)).seen = []
      · rw [decide_eq_false (by rw [hl, c0]; simp)]
        refine iteF ⟨_, _, rfl, rfl, fun j hj' => ?_⟩
        by_cases e : j = i
        · rw [e]; exact c0
        · exact hj j (by omega)
      · have hpos : 0 < ss.length := by
          rw [hl]
          exact List.length_pos_iff.mpr c0
        rw [decide_eq_true (show (0 : Int) < (ss.length : Int) by omega)]
        refine iteT ⟨_, rfl, ?_⟩
        have en : m.next = some ((m.turn + i) % 4) := by
          unfold M.next
          refine find_at hat (by simp [c0]) fun j y hj' e => ?_
          rw [List.getElem?_map, List.getElem?_range (by omega)] at e
          have e := Option.some.inj e
          subst e
          simp [hj j hj']
        rw [en] at k
        show Q (.int (((m.turn : Int) + (0 + (i : Int))) % 4)) H'
        rw [ek]
        exact k
    · rintro σ H' ⟨a, b, rfl, rfl, hj⟩
      have en : m.next = none := by
        unfold M.next
        rw [List.find?_eq_none]
        intro x hx
        obtain ⟨i, hi, rfl⟩ := List.mem_map.mp hx
        rw [hj i (List.mem_range.mp hi)]
        simp
      rw [en] at k
      exact k
end
end Rg

namespace Rg
open PySem PySem.Spec PyProof.Rows L2
theorem upd1_upd1 {α : Type} {f : Nat → α} {i : Nat} {x y : α} : upd1 (upd1 f i x) i y = upd1 f i y := funext fun j => by
  unfold upd1
  split <;> rfl
theorem own1_ne' {own : Owns} {p b : Addr} {t : Nat} (h : b ≠ p) : own1 own p t b = own b := if_neg h
section
variable (m : M) (bl ml rl ol : Addr)
theorem cF_len (ca : Addr) : (cF m ca bl ml rl ol).length = 9 := rfl
theorem cF_turn (ca : Addr) (k : Nat) : putF "turn" (.int (k : Int)) (cF m ca bl ml rl ol) = cF { m with turn := k } ca bl ml rl ol := (put_zip (i := 4) (by decide +kernel) (by show 4 < 9; decide)).trans rfl
theorem cF_sent (ca : Addr) (k : Nat) : putF "frames_sent" (.int (k : Int)) (cF m ca bl ml rl ol) = cF { m with sent := k } ca bl ml rl ol := (put_zip (i := 6) (by decide +kernel) (by show 6 < 9; decide)).trans rfl
theorem cF_come (ca : Addr) (k : Nat) : putF "frames_come" (.int (k : Int)) (cF m ca bl ml rl ol) = cF { m with come := k } ca bl ml rl ol := (put_zip (i := 7) (by decide +kernel) (by show 7 < 9; decide)).trans rfl
theorem cF_drop (ca : Addr) (k : Nat) : putF "frames_dropped" (.int (k : Int)) (cF m ca bl ml rl ol) = cF { m with drop := k } ca bl ml rl ol := (put_zip (i := 8) (by decide +kernel) (by show 8 < 9; decide)).trans rfl
end
/-- what a step asks of the card -/
structure Fit (m : M) : Prop where
  used : ∀ i, i < 5 → (m.ring i).used ≤ 64
  desc : ∀ i, i < 5 → ∀ d, d ∈ (m.ring i).posted ∨ d ∈ (m.ring i).seen ∨ d ∈ (m.ring i).done → d.buf < 64 ∧ d.len ≤ 256
  part : ∀ i, i < 5 → (m.part i).length ≤ 4096
  out : m.out.length ≤ 16
  bufs : m.bufs.length = 64
  buf : ∀ b ∈ m.bufs, b.length = 256
  mine : m.mine.length = 64
/-- card.send_first(ring, descriptor) -/
def spSend (CD CR CC CU : Addr) : Sp := fun vs H Q _ => ∃ (c x : Addr) (m : M) (own : Owns) (k : Nat) (d : Sj50.Desc) (l : List Sj50.Desc), vs = [.ref c, .int (k : Int), .ref x] ∧ CardAt CD CR CC CU H c m own ∧ Fit m ∧ k < 4 ∧ (m.ring k).seen = d :: l ∧ DescV CD H (.ref x) d ∧
  ∀ H' own', CardAt CD CR CC CU H' c (m.send k d l) own' → COut H H' own → CNew H own own' → Q .non H'
section
variable {P : Program} {w : World} {K : PySem.W.Frag} {mg : Str → Option Value} {base : Heap} {CD CR CC CU : Addr}
theorem CardL.desc_own {H : Hp} {c : Addr} {m : M} {own : Owns} {L : Lay} (h : CardL CD CR CC CU H c m own L) {x dx : Addr} {fs : List (Str × V)} (hd : H x = some (.ins CD dx fs)) : own x = none := by
  cases z : own x with
  | none => rfl
  | some t =>
    obtain ⟨o, ho, hc⟩ := h.cells x t z
    rw [hd] at ho
    exact (hc.no (Option.some.inj ho).symm).elim
theorem cF_no0 {m : M} {ca bl ml rl ol : Addr} {n : Str} (h : cN.all (fun x => !(n == x)) = true) : (cF m ca bl ml rl ol).lookup n = none := lk_zipNo h
theorem noM {z : Nat} {p s d f : Addr} {n : Str} (e : [("places" : Str), "posted", "seen", "done", "frame"].all (fun x => !(n == x)) = true) : (rF z p s d f).lookup n = none := lk_zipNo (vs := [.int (z : Int), .ref p, .ref s, .ref d, .ref f]) e
/-- one_more(count) -/
def spMore : Sp := fun vs H Q _ => ∃ n : Nat, vs = [.int (n : Int)] ∧ Q (.int (((n + 1) % 2 ^ 32 : Nat) : Int)) H
theorem scMore : FnScope ["count"] ["count"] (defScope sMore) := ⟨rfl, rfl, rfl, by decide +kernel, rfl, by decide +kernel, by decide +kernel⟩
theorem ok_more {f : Addr} {fd : FuncData} (F : Fun K "one_more" "one_more" sMore f fd) (S : STxt mg) : FnOk P w K mg base CX0 1 f fd ["count"] spMore := by
  refine F.ok scMore (fun vs H Q E h => ?_) (fun cdv A outer s H vs Q E hr h => ?_)
  · obtain ⟨n, rfl, _⟩ := h
    rfl
  · obtain ⟨n, rfl, k⟩ := h
    obtain ⟨tM, gM⟩ := S.gM
    refine ⟨_, pss_one (ps_ret (pe_op op_mod (pe_op op_add (pv 0) pe_int) (pe_glob (v := .int 4294967296) rfl gM ⟨_, rfl⟩))), ?_⟩
    refine ⟨_, rfl, _, _, rfl, rfl, _, _, rfl, rfl, (by show (0 : Int) < 4294967296; decide), ?_⟩
    have e32 : ((n : Int) + 1) % 4294967296 = (((n + 1) % 2 ^ 32 : Nat) : Int) := by omega
    show Q (.int (((n : Int) + 1) % 4294967296)) H
    rw [e32]
    exact k
def M.fin (m : M) (k : Nat) (d : Sj50.Desc) (l : List Sj50.Desc) : M := { m with ring := upd1 m.ring k { m.ring k with seen := l, done := (m.ring k).done ++ [d] }, since := m.since + 1 }
/-- card.finish_first(ring) -/
def spFinC (CD CR CC CU : Addr) : Sp := fun vs H Q _ => ∃ (c : Addr) (m : M) (own : Owns) (L : Lay) (k : Nat) (d : Sj50.Desc) (l : List Sj50.Desc), vs = [.ref c, .int (k : Int)] ∧ CardL CD CR CC CU H c m own L ∧ k < 5 ∧ (m.ring k).used ≤ 1000 ∧ (m.ring k).seen = d :: l ∧
  ∀ H' own' L', CardL CD CR CC CU H' c (m.fin k d l) own' L' → L'.ra = L.ra → COut H H' own → CNew H own own' → Q .non H'
theorem scCFin : FnScope ["self", "ring"] ["self", "ring"] (defScope sCFin) := ⟨rfl, rfl, rfl, by decide +kernel, rfl, by decide +kernel, by decide +kernel⟩
theorem ok_cfin {f fF fU : Addr} {fd fdF fdU : FuncData} (F : Fun K "finish_first" "Card.finish_first" sCFin f fd) (T : CTxt K mg CD CR CC CU)
    (FF : Fun K "mark_first_done" "Ring.mark_first_done" sRFin fF fdF) (bF : Binds K fdF ["self"] []) (mF : Meth K CR "mark_first_done" fF)
    (FU : Fun K "count_done" "Cause.count_done" sUCount fU fdU) (bU : Binds K fdU ["self"] []) (mU : Meth K CU "count_done" fU) : FnOk P w K mg base CX0 2 f fd ["self", "ring"] (spFinC CD CR CC CU) := by
  have GF : FnOk P w K mg base CX0 1 fF fdF ["self"] (spFin CD CR) := ok_fin FF T.R
  have GU : FnOk P w K mg base CX0 1 fU fdU ["self"] (spUCount CU) := ok_ucount FU T.U
  refine F.ok scCFin (fun vs H Q E h => ?_) (fun cdv A outer s H vs Q E hr h => ?_)
  · obtain ⟨c, m, own, L, k, d, l, rfl, _⟩ := h
    rfl
  · obtain ⟨c, m, own, L, k, d, l, rfl, h, hk, hu, es, kk⟩ := h
    refine ⟨_, pss_cons (ps_expr (pe_meth0 (pe_ix ix_list (pe_fld (pv 0) rfl) (pv 1) (fun _ _ => rfl)) T.R.cl mF GF hr bF .nil pass0)) (pss_one (ps_expr (pe_meth0 (pe_fld (pv 0) rfl) T.U.cl mU GU hr bU .nil pass0))), ?_⟩
    have R := h.hr k hk
    obtain ⟨rdx, rp, rs, rd, rf, _, _, _, _, _, ha, _⟩ := id R
    refine ⟨_, rfl, c, CC, L.dx, _, _, rfl, h.hc, T.cl, T.na _ (by decide +kernel), lk_zip (i := 3) (by decide +kernel) rfl, _, rfl, L.rl, _, _, _, rfl, rfl, SqL.of h.hrl, atI_nat (range5 hk), L.ra k, rdx, _, rfl, ha, noM (by decide +kernel), L.ra k, _, _, _, _, d, l, rfl, R, hu, es, fun H1 F1 R1 o1 n1 => ?_⟩
    obtain ⟨h1, co1, cn1⟩ := h.ring T.R.ne hk R1 o1 n1
    rw [upd1_self] at h1
    refine ⟨_, rfl, c, CC, L.dx, _, _, rfl, h1.hc, T.cl, T.na _ (by decide +kernel), lk_zip (i := 0) (by decide +kernel) rfl, L.ca, L.cdx, _, rfl, h1.hca, uG_no _ _ _ _ (by decide +kernel), L.ca, L.cdx, _, _, _, _, rfl, h1.hca, ?_⟩
    have h2 := h1.causeU (m' := m.fin k d l) T.U.ne rfl rfl rfl rfl rfl rfl (fun _ _ _ _ _ => rfl)
    exact kk _ _ _ h2 rfl (COut.trans co1 cn1 (h1.outU h1.oca)) cn1
theorem scCSend : FnScope ["self", "ring", "descriptor", "served"] ["self", "ring", "descriptor"] (defScope sCSend) := ⟨rfl, rfl, rfl, by decide +kernel, rfl, by decide +kernel, by decide +kernel⟩
theorem ok_send {f fJ fF fE fM : Addr} {fd fdJ fdF fdE fdM : FuncData} (F : Fun K "send_first" "Card.send_first" sCSend f fd) (T : CTxt K mg CD CR CC CU) (S : STxt mg)
    (FJ : Fun K "join_frame" "Ring.join_frame" sRJoin fJ fdJ) (bJ : Binds K fdJ ["self", "data"] []) (mJ : Meth K CR "join_frame" fJ)
    (GF : FnOk P w K mg base CX0 2 fF fdF ["self", "ring"] (spFinC CD CR CC CU)) (bF : Binds K fdF ["self", "ring"] []) (mF : Meth K CC "finish_first" fF)
    (FM : Fun K "one_more" "one_more" sMore fM fdM) (bM : Binds K fdM ["count"] []) (gM : mg "one_more" = some (.ref fM))
    (FE : Fun K "end_frame" "Ring.end_frame" sREnd fE fdE) (bE : Binds K fdE ["self"] []) (mE : Meth K CR "end_frame" fE) : FnOk P w K mg base CX0 3 f fd ["self", "ring", "descriptor"] (spSend CD CR CC CU) := by
  have GJ : FnOk P w K mg base CX0 1 fJ fdJ ["self", "data"] (spJoin CD CR) := ok_join FJ T.R
  have GM : FnOk P w K mg base CX0 1 fM fdM ["count"] spMore := ok_more FM S
  have GE : FnOk P w K mg base CX0 1 fE fdE ["self"] (spEnd CD CR) := ok_end FE T.R
  refine F.ok scCSend (fun vs H Q E h => ?_) (fun cdv A outer s H vs Q E hr h => ?_)
  · obtain ⟨c, x, m, own, k, d, l, rfl, _⟩ := h
    rfl
  · obtain ⟨c, x, m, own, k, d, l, rfl, ⟨L, h⟩, ft, hk, es, ⟨x', dxx, ex, hx⟩, kk⟩ := h
    obtain rfl : x = x' := by injection ex
    have hk5 : k < 5 := by omega
    obtain ⟨t4, g4⟩ := S.g4
    have hr1 : Room 1 _ := hr.mono (by decide)
    obtain ⟨hdb, hdl⟩ := ft.desc k hk5 d (.inr (.inl (by rw [es]; exact List.mem_cons_self ..)))
    have hbl : d.buf < m.bufs.length := by rw [ft.bufs]; exact hdb
    obtain ⟨ba, hba, hbb⟩ := Paired.get h.hba (getD_some (z := []) hbl)
    refine ⟨_, pss_cons (ps_set (i := 3) scCSend.nd rfl (Or.inl rfl) (pe_ix ix_list (pe_fld (pv 0) rfl) (pv 1) (fun _ _ => rfl)))
      (pss_cons (ps_expr (pe_meth (pv 3) T.R.cl mJ GJ hr1 bJ .nil pass0 (pa_cons (pe_slice sl_list (pe_ix ix_list (pe_fld (pv 0) rfl) (pe_fld (pv 2) rfl) (fun _ _ => rfl)) po_none (po_some (pe_fld (pv 2) rfl))) pa_nil)))
      (pss_cons (ps_expr (pe_meth (pv 0) T.cl mF GF hr bF .nil pass0 (pa_cons (pv 1) pa_nil)))
      (pss_cons (ps_fld (pv 0) (pv 1) rfl)
      (pss_one (ps_if (pt_cmpR op_eq (pe_fld (pv 2) rfl) pe_int (nomark _))
        (pss_cons (ps_expr (pe_bm PySem.F.plainAttrs_list PySem.F.slot_list_append PySem.F.type_list_append mt_append (pe_fld (pv 0) rfl) (pa_cons (pe_meth0 (pv 3) T.R.cl mE GE hr1 bE .nil pass0) pa_nil)))
        (pss_cons (ps_fld (pv 0) (pe_call GM hr1 rfl gM FM.kp bM .nil pass0 (pa_cons (pe_fld (pv 0) rfl) pa_nil)) rfl)
        (pss_one (ps_fld (pv 0) (pe_op op_mod (pe_op op_add (pv 1) pe_int) (pe_glob (v := .int 4) rfl g4 ⟨_, rfl⟩)) rfl)))) pss_nil))))), ?_⟩
    -- served = self.rings[ring]
    refine ⟨_, rfl, c, CC, L.dx, _, _, rfl, h.hc, T.cl, T.na _ (by decide +kernel), lk_zip (i := 3) (by decide +kernel) rfl, _, rfl, L.rl, _, _, _, rfl, rfl, SqL.of h.hrl, atI_nat (range5 hk5), ?_⟩
    -- served.join_frame(self.buffers[descriptor.buffer][:descriptor.length])
    obtain ⟨rdx, rp, rs, rd, rf, _, _, _, _, _, ha, _⟩ := id (h.hr k hk5)
    refine ⟨_, rfl, L.ra k, rdx, _, rfl, ha, noM (by decide +kernel), _, rfl, c, CC, L.dx, _, _, rfl, h.hc, T.cl, T.na _ (by decide +kernel), lk_zip (i := 1) (by decide +kernel) rfl,
      _, rfl, x, CD, dxx, _, _, rfl, hx, T.DT.cl, T.DT.nB, dF_buffer d, L.bl, _, _, _, rfl, rfl, SqL.of h.hbl, atI_nat (v := .ref ba) (by rw [List.getElem?_map, hba]; rfl),
      _, rfl, x, CD, dxx, _, _, rfl, hx, T.DT.cl, T.DT.nL, dF_length d, _, rfl, ba, _, rfl, SqL.of hbb, fun p1 hp1 => ?_⟩
    have ec : cutV (bV (m.bufs.getD d.buf [])) none (some (d.len : Int)) = bV ((m.bufs.getD d.buf []).take d.len) := by
      rw [cut_to (by omega), bV_take]
      rfl
    rw [ec]
    have s1 := Same.upd (o := .lst (bV ((m.bufs.getD d.buf []).take d.len))) hp1
    have h1 := h.same s1
    refine ⟨L.ra k, _, _, _, _, p1, _, rfl, h1.hr k hk5, ft.part k hk5, upd_same, fun H2 F2 R2 o2 n2 => ?_⟩
    obtain ⟨h2, co2, cn2⟩ := h1.ring T.R.ne hk5 R2 o2 n2
    rw [upd1_self] at h2
    have xo1 := h1.desc_own (s1 _ _ hx)
    have hx2 := co2 _ _ (s1 _ _ hx) xo1
    -- self.finish_first(ring)
    refine ⟨_, rfl, c, L.dx, _, rfl, h2.hc, cF_no0 (by decide +kernel), _, rfl, c, _, _, _, k, d, l, rfl, h2, hk5, Nat.le_trans (ft.used k hk5) (by decide), es, fun H3 own3 L3 h3 er3 co3 cn3 => ?_⟩
    obtain ⟨m3, em3, h3', co, cn⟩ : ∃ m3, m3 = ({ m with ring := upd1 m.ring k { m.ring k with seen := l, done := (m.ring k).done ++ [d] }, part := upd1 m.part k ((m.part k ++ (m.bufs.getD d.buf []).take d.len).take 4096), since := m.since + 1 } : M) ∧ CardL CD CR CC CU H3 c m3 own3 L3 ∧ COut H H3 own ∧ CNew H own own3 := by
      refine ⟨_, ?_, h3, ?_, ?_⟩
      · rfl
      · exact COut.trans (own1 := own) (fun b o e _ => s1 _ _ e) (CNew.refl _ _) (COut.trans co2 cn2 co3)
      · exact CNew.trans (own1 := own) (fun b o e _ => s1 _ _ e) (CNew.refl _ _) (CNew.trans co2 cn2 cn3)
    have er3 : L3.ra = L.ra := er3
    have hx3 := co _ _ hx (h.desc_own hx)
    clear h1 h2 h3 R2 o2 n2 co2 co3 cn2 cn3 ha
    -- self.turn = ring
    refine ⟨_, rfl, _, rfl, c, CC, L3.dx, _, rfl, h3'.hc, T.cl, T.na _ (by decide +kernel), (by rw [cF_len]; decide), ?_⟩
    rw [cF_turn]
    have h5 := h3'.nums (m' := { m3 with turn := k }) T.ne rfl rfl rfl rfl rfl rfl rfl
    have co5 := COut.trans co cn (h3'.outU (o := .ins CC L3.dx (cF { m3 with turn := k } L3.ca L3.bl L3.ml L3.rl L3.ol)) h3'.oc)
    generalize upd H3 c (.ins CC L3.dx (cF { m3 with turn := k } L3.ca L3.bl L3.ml L3.rl L3.ol)) = H5 at *
    have hx5 := co5 _ _ hx (h.desc_own hx)
    refine ⟨_, rfl, x, CD, dxx, _, _, rfl, hx5, T.DT.cl, T.DT.nT, dF_last d, rfl, _, rfl, ?_⟩
    by_cases hl : d.last = true
    · rw [decide_eq_true (show V.int (Sj50.bit d.last) = V.int 1 by rw [hl]; rfl)]
      refine iteT ?_
      have em : m.send k d l = { m3 with turn := (k + 1) % 4, part := upd1 m.part k [], out := m3.out ++ [(m.part k ++ (m.bufs.getD d.buf []).take d.len).take 4096], sent := (m3.sent + 1) % 2 ^ 32 } := by
        unfold M.send
        dsimp only
        rw [if_pos hl, em3]
      rw [em] at kk
      -- self.frames_out.append(served.end_frame())
      have R5 := h5.hr k hk5
      obtain ⟨rdx5, rp5, rs5, rd5, rf5, _, _, _, _, _, ha5, _⟩ := id R5
      rw [← er3]
      refine ⟨_, rfl, c, CC, L3.dx, _, _, rfl, h5.hc, T.cl, T.na _ (by decide +kernel), lk_zip (i := 5) (by decide +kernel) rfl, .inl ⟨rfl, _, SqL.of h5.hol⟩, _, rfl, L3.ra k, rdx5, _, rfl, ha5, noM (by decide +kernel), L3.ra k, _, _, _, _, rfl, R5, fun H6 F6 t R6 o6 n6 tF tF' ht => ?_⟩
      obtain ⟨h6, co6, cn6⟩ := h5.ring T.R.ne hk5 R6 o6 n6
      rw [upd1_self] at h6
      have ot : ownR own3 k (L3.Fr k) F6 t = none := by
        unfold ownR
        rw [if_neg tF', if_pos tF]
      have hot : own3 t ≠ none := by
        rw [h5.oFr k hk5 t tF]
        exact fun z => nomatch z
      have ht' : BytesAt H6 t ((m.part k ++ (m.bufs.getD d.buf []).take d.len).take 4096) := by
        have : m3.part k = (m.part k ++ (m.bufs.getD d.buf []).take d.len).take 4096 := by
          rw [em3]
          exact upd1_same
        rw [← this]
        exact ht
      have hol : L3.oas.length = m3.out.length := Paired.len h5.hoa
      have hol2 : m3.out.length ≤ 16 := by
        rw [em3]
        exact ft.out
      refine ⟨L3.ol, _, _, rfl, rfl, h6.hol, Nat.lt_of_le_of_lt (show _ ≤ 16 by rw [List.length_map]; show L3.oas.length ≤ 16; omega) (by decide), ?_⟩
      have h6a := h6.adopt (t := 6) ot ht trivial
      have eo : (L3.oas.map V.ref) ++ [V.ref t] = (L3.oas ++ [t]).map V.ref := by simp
      show tSeq _ _ _ _ (upd H6 L3.ol (.lst ((L3.oas.map V.ref) ++ [V.ref t])))
      rw [eo]
      have h7 := h6a.outsU (l := L3.oas ++ [t]) (fs := m3.out ++ [(m.part k ++ (m.bufs.getD d.buf []).take d.len).take 4096]) (fun a q => by
        rcases List.mem_append.mp q with q | q
        · exact h6a.ooa a q
        · rw [List.mem_singleton.mp q]; exact own1_same) (Paired.append h6.hoa (.cons ht' .nil))
      have co6a := COut.trans co5 cn co6
      have cn6a := CNew.trans co5 cn cn6
      have co7 : COut H (upd H6 L3.ol (.lst ((L3.oas ++ [t]).map V.ref))) own := fun b o e z => by
        have nb : b ≠ L3.ol := fun e' => by
          have : own3 b = none := by
            cases y : own3 b with
            | none => rfl
            | some u =>
              have := cn b z (by rw [y]; exact fun z => nomatch z)
              rw [this] at e
              cases e
          rw [e', h5.ool] at this
          cases this
        exact (upd_ne nb).trans (co6a b o e z)
      have cn7 : CNew H own (own1 (ownR own3 k (L3.Fr k) F6) t 6) := fun b z y => by
        by_cases e : b = t
        · rw [e] at z ⊢
          exact cn t z hot
        · rw [own1_ne' e] at y
          exact cn6a b z y
      -- self.frames_sent = (self.frames_sent + 1) % COUNT_MODULUS
      have e4 : ((k : Int) + 1) % 4 = (((k + 1) % 4 : Nat) : Int) := by omega
      refine ⟨_, rfl, c, CC, L3.dx, _, _, rfl, h7.hc, T.cl, T.na _ (by decide +kernel), lk_zip (i := 6) (by decide +kernel) rfl, m3.sent, rfl, _, rfl, c, CC, L3.dx, _, rfl, h7.hc, T.cl, T.na _ (by decide +kernel), (by rw [cF_len]; decide), ?_⟩
      have e9 : ∀ (m7 : M) (a0 a1 a2 a3 a4 : Addr), putF "turn" (.int (((k : Int) + 1) % 4)) (cF m7 a0 a1 a2 a3 a4) = cF { m7 with turn := (k + 1) % 4 } a0 a1 a2 a3 a4 := fun m7 a0 a1 a2 a3 a4 => by
        rw [e4]
        exact cF_turn ..
      rw [cF_sent]
      have h8 := h7.nums (m' := { m3 with turn := k, part := upd1 m3.part k [], out := m3.out ++ [(m.part k ++ (m.bufs.getD d.buf []).take d.len).take 4096], sent := (m3.sent + 1) % 2 ^ 32 }) T.ne rfl rfl rfl rfl rfl rfl rfl
      refine ⟨_, rfl, _, _, rfl, rfl, _, _, rfl, rfl, (by show (0 : Int) < 4; decide), _, rfl, c, CC, L3.dx, _, rfl, h8.hc, T.cl, T.na _ (by decide +kernel), (by rw [cF_len]; decide), ?_⟩
      rw [e9]
      have h9 := h8.nums (m' := { m3 with turn := (k + 1) % 4, part := upd1 m3.part k [], out := m3.out ++ [(m.part k ++ (m.bufs.getD d.buf []).take d.len).take 4096], sent := (m3.sent + 1) % 2 ^ 32 }) T.ne rfl rfl rfl rfl rfl rfl rfl
      have ep : upd1 m3.part k [] = upd1 m.part k [] := by
        rw [em3]
        exact upd1_upd1
      rw [ep] at h9
      exact kk _ _ ⟨_, h9⟩ (COut.trans (COut.trans co7 cn7 (h7.outU h7.oc)) cn7 (h8.outU h8.oc)) cn7
    · rw [decide_eq_false (show ¬ V.int (Sj50.bit d.last) = V.int 1 by
        intro e
        apply hl
        cases q : d.last with
        | true => rfl
        | false => rw [q] at e; injection e with e; exact absurd e (by decide))]
      refine iteF ?_
      have em : m.send k d l = { m3 with turn := k } := by
        unfold M.send
        dsimp only
        rw [if_neg hl, em3]
      rw [em] at kk
      exact kk _ _ ⟨_, h5⟩ co5 cn
end
end Rg

namespace Rg
open PySem PySem.Spec PyProof.Rows L2
theorem M.next_some {m : M} {k : Nat} (h : m.next = some k) : k < 4 ∧ (m.ring k).seen ≠ [] := by
  unfold M.next at h
  have h1 := List.mem_of_find?_eq_some h
  have h2 := List.find?_some h
  obtain ⟨i, _, e⟩ := List.mem_map.mp h1
  refine ⟨by rw [← e]; exact Nat.mod_lt _ (by decide), fun z => ?_⟩
  rw [z] at h2
  exact Bool.false_ne_true h2
theorem M.works_none {m : M} {n : Nat} (e : m.step = none) : M.works (n + 1) m = (0, m) := by
  show (match m.step with | none => (0, m) | some u => ((M.works n u).1 + 1, (M.works n u).2)) = _
  rw [e]
theorem M.works_some {m u : M} {n : Nat} (e : m.step = some u) : M.works (n + 1) m = ((M.works n u).1 + 1, (M.works n u).2) := by
  show (match m.step with | none => (0, m) | some u => ((M.works n u).1 + 1, (M.works n u).2)) = _
  rw [e]
/-- card.step() -/
def spStep (CD CR CC CU : Addr) : Sp := fun vs H Q _ => ∃ (c : Addr) (m : M) (own : Owns), vs = [.ref c] ∧ CardAt CD CR CC CU H c m own ∧ Fit m ∧ (m.step = none → Q (.bl false) H) ∧
  (∀ m', m.step = some m' → ∀ H' own', CardAt CD CR CC CU H' c m' own' → COut H H' own → CNew H own own' → Q (.bl true) H')
/-- card.work(most) -/
def spWork (CD CR CC CU : Addr) : Sp := fun vs H Q _ => ∃ (c : Addr) (m : M) (own : Owns) (n : Nat) (G : M → Prop), vs = [.ref c, .int (n : Int)] ∧ CardAt CD CR CC CU H c m own ∧ G m ∧ (∀ m, G m → Fit m) ∧ (∀ m m', G m → m.step = some m' → G m') ∧
  ∀ H' own', CardAt CD CR CC CU H' c (M.works n m).2 own' → COut H H' own → CNew H own own' → Q (.int ((M.works n m).1 : Nat)) H'
section
variable {P : Program} {w : World} {K : PySem.W.Frag} {mg : Str → Option Value} {base : Heap} {CD CR CC CU : Addr}
theorem cF_no {m : M} {ca bl ml rl ol : Addr} {n : Str} (h : cN.all (fun x => !(n == x)) = true) : (cF m ca bl ml rl ol).lookup n = none := lk_zipNo h
theorem scCStep : FnScope ["self", "ring", "descriptor"] ["self"] (defScope sCStep) := ⟨rfl, rfl, rfl, by decide +kernel, rfl, by decide +kernel, by decide +kernel⟩
theorem ok_step {f fV fS : Addr} {fd fdV fdS : FuncData} (F : Fun K "step" "Card.step" sCStep f fd) (T : CTxt K mg CD CR CC CU) (S : STxt mg)
    (GV : FnOk P w K mg base CX0 1 fV fdV ["self"] (spServe CD CR CC CU)) (bV' : Binds K fdV ["self"] []) (mV : Meth K CC "ring_to_serve" fV)
    (GS : FnOk P w K mg base CX0 3 fS fdS ["self", "ring", "descriptor"] (spSend CD CR CC CU)) (bS : Binds K fdS ["self", "ring", "descriptor"] []) (mS : Meth K CC "send_first" fS) : FnOk P w K mg base CX0 4 f fd ["self"] (spStep CD CR CC CU) := by
  refine F.ok scCStep (fun vs H Q E h => ?_) (fun cdv A outer s H vs Q E hr h => ?_)
  · obtain ⟨c, m, own, rfl, _⟩ := h
    rfl
  · obtain ⟨c, m, own, rfl, ⟨L, h⟩, ft, kN, kS⟩ := h
    obtain ⟨tN, gN⟩ := S.gN
    obtain ⟨tF, gF⟩ := S.gF
    have hr1 : Room 1 _ := hr.mono (by decide)
    refine ⟨_, pss_cons (ps_set (i := 1) scCStep.nd rfl (Or.inl rfl) (pe_meth0 (pv 0) T.cl mV GV hr1 bV' .nil pass0))
      (pss_cons (ps_if (pt_cmpR op_eq (pv 1) (pe_glob (v := .int (-1)) rfl gN ⟨_, rfl⟩) (nomark _)) (pss_one (ps_ret pe_bl)) pss_nil)
      (pss_cons (ps_set (i := 2) scCStep.nd rfl (Or.inl rfl) (pe_ix ix_list (pe_fld (pe_ix ix_list (pe_fld (pv 0) rfl) (pv 1) (fun _ _ => rfl)) rfl) pe_int (fun _ _ => rfl)))
      (pss_cons (ps_if (PW.pt (pw_and (pt_cmpR op_eq (pe_fld (pv 2) rfl) pe_int (nomark _)) (pw_and1 (pt_cmpR op_eq (pe_callB call_len_seq (by rfl) T.len PySem.boot_len (pa_cons (pe_fld (pv 0) rfl) pa_nil)) (pe_glob (v := .int 16) rfl gF ⟨_, rfl⟩) (nomark _))))) (pss_one (ps_ret pe_bl)) pss_nil)
      (pss_cons (ps_expr (pe_meth (pv 0) T.cl mS GS hr bS .nil pass0 (pa_cons (pv 1) (pa_cons (pv 2) pa_nil)))) (pss_one (ps_ret pe_bl)))))), ?_⟩
    refine ⟨_, rfl, c, L.dx, _, rfl, h.hc, cF_no (by decide +kernel), c, m, own, rfl, ⟨L, h⟩, ?_⟩
    cases en : m.next with
    | none =>
      have e0 : m.step = none := by
        unfold M.step
        rw [en]
      exact ⟨_, rfl, rfl, _, rfl, iteT (kN e0)⟩
    | some k =>
      obtain ⟨hk, hne⟩ := M.next_some en
      have hk5 : k < 5 := by omega
      refine ⟨_, rfl, rfl, _, rfl, ?_⟩
      rw [decide_eq_false (show ¬ V.int (optI (some k)) = V.int (-1) from fun e => by injection e with e; have : (k : Int) = -1 := e; omega)]
      refine iteF ?_
      obtain ⟨rdx, rp, rs, rd, rf, ps, ss, ds, _, _, ha, _, hs, _, _, _, hse, _⟩ := h.hr k hk5
      obtain ⟨d, l, es⟩ : ∃ d l, (m.ring k).seen = d :: l := by
        cases q : (m.ring k).seen with
        | nil => exact absurd q hne
        | cons d l => exact ⟨d, l, rfl⟩
      rw [es] at hse
      rcases hse with _ | ⟨⟨x, dxx, rfl, hx⟩, ht⟩
      refine ⟨_, rfl, c, CC, L.dx, _, _, rfl, h.hc, T.cl, T.na _ (by decide +kernel), lk_zip (i := 3) (by decide +kernel) rfl, _, rfl, L.rl, _, _, _, rfl, rfl, SqL.of h.hrl, atI_nat (range5 hk5), L.ra k, CR, rdx, _, _, rfl, ha, T.R.cl, T.R.nS, rF_seen .., rs, _, _, _, rfl, rfl, SqL.of hs, atI_nat (j := 0) (v := .ref x) rfl, ?_⟩
      have hol : L.oas.length = m.out.length := Paired.len h.hoa
      have estep : m.step = if d.last = true ∧ m.out.length = 16 then none else some (m.send k d l) := by
        unfold M.step
        rw [en]
        dsimp only
        rw [es]
      refine ⟨_, rfl, x, CD, dxx, _, _, rfl, hx, T.DT.cl, T.DT.nT, dF_last d, rfl, _, rfl, ?_⟩
      by_cases hl : d.last = true
      · rw [decide_eq_true (show V.int (Sj50.bit d.last) = V.int 1 by rw [hl]; rfl)]
        refine iteT ⟨_, rfl, c, CC, L.dx, _, _, rfl, h.hc, T.cl, T.na _ (by decide +kernel), lk_zip (i := 5) (by decide +kernel) rfl, L.ol, _, rfl, .inl (SqL.of h.hol), rfl, _, rfl, ?_⟩
        by_cases ho : m.out.length = 16
        · rw [decide_eq_true (show V.int ((L.oas.map V.ref).length : Int) = V.int 16 by rw [List.length_map, hol, ho]; rfl)]
          rw [if_pos ⟨hl, ho⟩] at estep
          exact iteT (kN estep)
        · rw [decide_eq_false (show ¬ V.int ((L.oas.map V.ref).length : Int) = V.int 16 from fun e => by injection e with e; rw [List.length_map, hol] at e; omega)]
          rw [if_neg fun z => ho z.2] at estep
          refine iteF ⟨_, rfl, c, L.dx, _, rfl, h.hc, cF_no (by decide +kernel), _, rfl, _, rfl, c, x, m, own, k, d, l, rfl, ⟨L, h⟩, ft, hk, es, ⟨x, dxx, rfl, hx⟩, fun H' own' h' co cn => ?_⟩
          exact kS _ estep _ _ h' co cn
      · rw [decide_eq_false (show ¬ V.int (Sj50.bit d.last) = V.int 1 by
          intro e
          apply hl
          cases q : d.last with
          | true => rfl
          | false => rw [q] at e; injection e with e; exact absurd e (by decide))]
        rw [if_neg fun z => hl z.1] at estep
        refine iteF (iteF ⟨_, rfl, c, L.dx, _, rfl, h.hc, cF_no (by decide +kernel), _, rfl, _, rfl, c, x, m, own, k, d, l, rfl, ⟨L, h⟩, ft, hk, es, ⟨x, dxx, rfl, hx⟩, fun H' own' h' co cn => ?_⟩)
        exact kS _ estep _ _ h' co cn
theorem scCWork : FnScope ["self", "most", "steps"] ["self", "most"] (defScope sCWork) := ⟨rfl, rfl, rfl, by decide +kernel, rfl, by decide +kernel, by decide +kernel⟩
theorem ok_work {f fS : Addr} {fd fdS : FuncData} (F : Fun K "work" "Card.work" sCWork f fd) (T : CTxt K mg CD CR CC CU)
    (GS : FnOk P w K mg base CX0 4 fS fdS ["self"] (spStep CD CR CC CU)) (bS : Binds K fdS ["self"] []) (mS : Meth K CC "step" fS) : FnOk P w K mg base CX0 5 f fd ["self", "most"] (spWork CD CR CC CU) := by
  refine F.ok scCWork (fun vs H Q E h => ?_) (fun cdv A outer s H vs Q E hr h => ?_)
  · obtain ⟨c, m, own, n, G, rfl, _⟩ := h
    rfl
  · obtain ⟨c, m, own, n, G, rfl, h0, g0, gF, gS, k⟩ := h
    refine ⟨_, pss_cons (ps_set (i := 2) scCWork.nd rfl (Or.inl rfl) pe_int)
      (pss_cons (ps_while PassesOwn.never (PW.pt (pw_and (pt_cmpR op_lt (pv 2) (pv 1) (nomark _)) (pw_and1 (pt_val (pe_meth0 (pv 0) T.cl mS GS hr bS .nil pass0))))) (pss_one (ps_aug (i := 2) scCWork.nd rfl (Or.inl rfl) pe_int ip_add)))
      (pss_one (ps_ret (pv 2)))), ?_⟩
    refine while_by (fun σ H' => ∃ (i : Nat) (mi : M) (ow : Owns), σ = [some (.ref c), some (.int (n : Int)), some (.int (i : Int))] ∧ i ≤ n ∧ CardAt CD CR CC CU H' c mi ow ∧ G mi ∧ COut H H' own ∧ CNew H own ow ∧ M.works n m = (i + (M.works (n - i) mi).1, (M.works (n - i) mi).2))
      (fun σ _ => n - (slotI σ 2).toNat) ⟨0, m, own, rfl, Nat.zero_le _, h0, g0, COut.refl _ _, CNew.refl _ _, by rw [Nat.sub_zero, Nat.zero_add]⟩ ?_ ?_
    · rintro σ H' ⟨i, mi, ow, rfl, hi, hc, hg, co, cn, ew⟩
      refine ⟨_, rfl, _, rfl, _, _, rfl, rfl, _, rfl, ?_⟩
      by_cases c1 : i < n
      · rw [decide_eq_true (show (i : Int) < (n : Int) by omega)]
        obtain ⟨L, h⟩ := id hc
        have ew' : n - i = (n - (i + 1)) + 1 := by omega
        refine iteT ⟨_, rfl, c, L.dx, _, rfl, h.hc, cF_no (by decide +kernel), c, mi, ow, rfl, hc, gF mi hg, fun e => ⟨_, rfl, iteF ⟨_, rfl, ?_⟩⟩, fun m' e H2 ow2 h2 co2 cn2 => ⟨_, rfl, iteT ?_⟩⟩
        · rw [ew'] at ew
          rw [M.works_none e] at ew
          rw [ew] at k
          exact k _ _ hc co cn
        · refine ⟨_, rfl, _, _, rfl, rfl, ⟨i + 1, m', ow2, rfl, c1, h2, gS mi m' hg e, COut.trans co cn co2, CNew.trans co cn cn2, ?_⟩, ?_⟩
          · rw [ew']at ew
            rw [ew]
            rw [M.works_some e]
            dsimp only
            congr 1
            omega
          · show n - ((i : Int) + 1).toNat < n - ((i : Nat) : Int).toNat
            omega
      · rw [decide_eq_false (show ¬ (i : Int) < (n : Int) by omega)]
        refine iteF (iteF ⟨_, rfl, ?_⟩)
        have e0 : n - i = 0 := by omega
        rw [e0] at ew
        have ew : M.works n m = (i + 0, mi) := ew
        rw [ew] at k
        exact k _ _ hc co cn
    · rintro σ H' R R' hq ⟨v1, e1, v2, e2, i, j, e5, e6, b, e7, q⟩
      refine ⟨v1, e1, v2, e2, i, j, e5, e6, b, e7, ?_⟩
      cases b with
      | false => exact iteF (hq _ _ (by have q : (if false = true then _ else R false H') := q; rw [if_neg Bool.false_ne_true] at q; exact q))
      | true =>
        refine iteT ?_
        have q : (if true = true then _ else _) := q
        rw [if_pos rfl] at q
        obtain ⟨v3, e8, a, dx, fs, e9, e10, e11, c', m', ow', e12, e13, e14, q1, q2⟩ := q
        exact ⟨v3, e8, a, dx, fs, e9, e10, e11, c', m', ow', e12, e13, e14, fun e => (by obtain ⟨y, z1, z2⟩ := q1 e; exact ⟨y, z1, hq _ _ z2⟩), fun mm e H2 ow2 x1 x2 x3 => (by obtain ⟨y, z1, z2⟩ := q2 mm e H2 ow2 x1 x2 x3; exact ⟨y, z1, hq _ _ z2⟩)⟩
end
end Rg

/-! The program's card is the document's: plain Lean. -/
namespace Rg
open Sj50
/-- what the program writes down of a lent buffer that isn't filled yet -/
def z0 (d : Desc) : Desc := ⟨d.buf, 0, false⟩
def lentM (r : Ring) : Ring := ⟨r.posted.map z0, r.seen.map z0, r.done⟩
theorem lentM_used (r : Ring) : (lentM r).used = r.used := by
  unfold lentM Ring.used
  simp only [List.length_map]
theorem lentM_ok {n : Nat} {r : Ring} (h : RingOK n r) : RingOK n (lentM r) := by
  refine ⟨by rw [lentM_used]; exact h.used, fun d hd => ?_⟩
  rcases hd with hd | hd | hd
  · obtain ⟨e, he, rfl⟩ := List.mem_map.mp hd
    exact ⟨(h.desc e (.inl he)).1, Nat.zero_le _⟩
  · obtain ⟨e, he, rfl⟩ := List.mem_map.mp hd
    exact ⟨(h.desc e (.inr (.inl he))).1, Nat.zero_le _⟩
  · exact h.desc d (.inr (.inr hd))
structure Rel (m : M) (c : Card) : Prop where
  size : m.size = c.size
  bufs : m.bufs = c.bufs
  mine : m.mine = c.at_.map (· == 0)
  ring : ∀ i, i < 4 → m.ring i = c.ring i
  lent : m.ring 4 = lentM c.lent
  part : ∀ i, i < 4 → m.part i = c.part.getD i []
  part4 : m.part 4 = []
  out : m.out = c.out
  many : m.many = c.many
  late : m.late = c.late
  turn : m.turn = c.turn
  sent : m.sent = c.counts.getD 0 0
  since : m.since = c.waiting
  come : m.come = c.counts.getD 1 0
  drop : m.drop = c.counts.getD 2 0
  ticks : m.ticks = c.since
theorem Rel.ringOK {m : M} {c : Card} (r : Rel m c) (w : WF c) {i : Nat} (hi : i < 5) : RingOK c.size (m.ring i) := by
  by_cases h : i < 4
  · rw [r.ring i h]
    exact w.ringOK i
  · have : i = 4 := by omega
    rw [this, r.lent]
    exact lentM_ok w.lent
theorem Rel.fit {m : M} {c : Card} (r : Rel m c) (w : WF c) : Fit m where
  used := fun i hi => Nat.le_trans (r.ringOK w hi).used w.size
  desc := fun i hi => (r.ringOK w hi).desc
  part := fun i hi => by
    by_cases h : i < 4
    · rw [r.part i h]
      exact w.partAt i
    · have : i = 4 := by omega
      rw [this, r.part4]
      exact Nat.zero_le _
  out := by rw [r.out]; exact w.out
  bufs := by rw [r.bufs]; exact w.bufs
  buf := by rw [r.bufs]; exact w.buf
  mine := by rw [r.mine, List.length_map]; exact w.at_
theorem getD_set {α : Type} {l : List α} {i j : Nat} {x z : α} (h : i < l.length) : (l.set i x).getD j z = if j = i then x else l.getD j z := by
  rw [List.getD_eq_getElem?_getD, List.getD_eq_getElem?_getD, List.getElem?_set]
  by_cases e : i = j
  · subst e
    simp [h]
  · rw [if_neg e, if_neg fun q => e q.symm]
theorem find_congr {α : Type} {p q : α → Bool} : ∀ {l : List α}, (∀ x ∈ l, p x = q x) → l.find? p = l.find? q
  | [], _ => rfl
  | a :: l, h => by
    rw [List.find?_cons, List.find?_cons, h a (List.mem_cons_self ..), find_congr fun x m => h x (List.mem_cons_of_mem _ m)]
theorem Rel.next {m : M} {c : Card} (r : Rel m c) : m.next = c.next := by
  unfold M.next Card.next
  rw [r.turn]
  refine find_congr fun x hx => ?_
  obtain ⟨i, _, rfl⟩ := List.mem_map.mp hx
  rw [r.ring _ (Nat.mod_lt _ (by decide))]
theorem ring_set {c : Card} {k : Nat} {x : Ring} (w : WF c) (hk : k < 4) (i : Nat) : ({ c with rings := c.rings.set k x } : Card).ring i = if i = k then x else c.ring i := by
  show (c.rings.set k x).getD i empty = _
  rw [getD_set (by rw [w.rings]; exact hk)]
  rfl
theorem part_set {c : Card} {k : Nat} {x : Bytes} (w : WF c) (hk : k < 4) (i : Nat) : (c.part.set k x).getD i [] = if i = k then x else c.part.getD i [] := getD_set (by rw [w.part]; exact hk)
theorem counted_at {c : List Nat} {k j n : Nat} (h : k < c.length) : (counted c k n).getD j 0 = if j = k then (c.getD k 0 + n) % 2 ^ 32 else c.getD j 0 := getD_set h
theorem Rel.step {m : M} {c : Card} (r : Rel m c) (w : WF c) : (m.step = none → c.work = none) ∧ (∀ m', m.step = some m' → ∃ c', c.work = some c' ∧ Rel m' c') := by
  unfold M.step Card.work
  rw [r.next]
  cases en : c.next with
  | none => exact ⟨fun _ => rfl, fun m' e => (nomatch e)⟩
  | some k =>
    obtain ⟨hk, _⟩ := next_lt en
    dsimp only
    rw [r.ring k hk]
    cases es : (c.ring k).seen with
    | nil => exact ⟨fun _ => rfl, fun m' e => (nomatch e)⟩
    | cons d l =>
      dsimp only
      have ho := w.out
      by_cases c1 : d.last = true ∧ m.out.length = 16
      · rw [if_pos c1, if_pos (by rw [c1.1, Bool.true_and, decide_eq_true_eq, ← r.out, c1.2]; exact Nat.le_refl _)]
        exact ⟨fun _ => rfl, fun m' e => (nomatch e)⟩
      · have c2 : ¬ (d.last && decide (OUT ≤ c.out.length)) = true := fun z => by
          rw [Bool.and_eq_true, decide_eq_true_eq] at z
          refine c1 ⟨z.1, ?_⟩
          rw [r.out]
          have : 16 ≤ c.out.length := z.2
          omega
        rw [if_neg c1, if_neg c2]
        refine ⟨fun e => (nomatch e), fun m' e => ⟨_, rfl, ?_⟩⟩
        have e := (Option.some.inj e).symm
        subst e
        have ef : (m.part k ++ (m.bufs.getD d.buf []).take d.len).take 4096 = (c.part.getD k [] ++ (c.buf d.buf).take d.len).take FRAME := by
          rw [r.part k hk, r.bufs]
          rfl
        unfold M.send
        dsimp only
        rw [ef, r.ring k hk]
        cases hl : d.last with
        | true =>
          rw [if_pos rfl, if_pos rfl]
          refine ⟨r.size, r.bufs, r.mine, fun i hi => ?_, ?_, fun i hi => ?_, ?_, ?_, r.many, r.late, rfl, ?_, ?_, ?_, ?_, r.ticks⟩
          · show upd1 m.ring k _ i = (c.rings.set k _).getD i empty
            rw [getD_set (by rw [w.rings]; exact hk)]
            unfold upd1
            split
            · rfl
            · exact r.ring i hi
          · show upd1 m.ring k _ 4 = lentM c.lent
            rw [upd1_ne (by omega)]
            exact r.lent
          · show upd1 m.part k [] i = (c.part.set k []).getD i []
            rw [part_set w hk]
            unfold upd1
            split
            · rfl
            · exact r.part i hi
          · show upd1 m.part k [] 4 = []
            rw [upd1_ne (by omega)]
            exact r.part4
          · show m.out ++ [_] = c.out ++ [_]
            rw [r.out]
          · show (m.sent + 1) % 2 ^ 32 = (counted c.counts 0 1).getD 0 0
            rw [counted_at (by rw [w.counts]; decide), if_pos rfl, r.sent]
          · show m.since + 1 = c.waiting + 1
            rw [r.since]
          · show m.come = (counted c.counts 0 1).getD 1 0
            rw [counted_at (by rw [w.counts]; decide), if_neg (by decide), r.come]
          · show m.drop = (counted c.counts 0 1).getD 2 0
            rw [counted_at (by rw [w.counts]; decide), if_neg (by decide), r.drop]
        | false =>
          rw [if_neg Bool.false_ne_true, if_neg Bool.false_ne_true]
          refine ⟨r.size, r.bufs, r.mine, fun i hi => ?_, ?_, fun i hi => ?_, ?_, r.out, r.many, r.late, rfl, r.sent, ?_, r.come, r.drop, r.ticks⟩
          · show upd1 m.ring k _ i = (c.rings.set k _).getD i empty
            rw [getD_set (by rw [w.rings]; exact hk)]
            unfold upd1
            split
            · rfl
            · exact r.ring i hi
          · show upd1 m.ring k _ 4 = lentM c.lent
            rw [upd1_ne (by omega)]
            exact r.lent
          · show upd1 m.part k _ i = (c.part.set k _).getD i []
            rw [part_set w hk]
            unfold upd1
            split
            · rfl
            · exact r.part i hi
          · show upd1 m.part k _ 4 = []
            rw [upd1_ne (by omega)]
            exact r.part4
          · show m.since + 1 = c.waiting + 1
            rw [r.since]
theorem Rel.works : ∀ {n : Nat} {m : M} {c : Card}, Rel m c → WF c → (M.works n m).1 = (Card.works n c).1 ∧ Rel (M.works n m).2 (Card.works n c).2
  | 0, m, c, r, w => ⟨rfl, r⟩
  | n + 1, m, c, r, w => by
    obtain ⟨h1, h2⟩ := r.step w
    cases e : m.step with
    | none =>
      rw [M.works_none e]
      unfold Card.works
      rw [h1 e]
      exact ⟨rfl, r⟩
    | some m' =>
      obtain ⟨c', e', r'⟩ := h2 m' e
      rw [M.works_some e]
      unfold Card.works
      rw [e']
      obtain ⟨h3, h4⟩ := Rel.works (n := n) r' (wf_work w e')
      exact ⟨congrArg (· + 1) h3, h4⟩
end Rg

namespace Rg
open PySem PySem.Spec PyProof.Rows L2
abbrev sOWrite : Stmt := top 28
abbrev sORead : Stmt := top 29
abbrev sOPost : Stmt := top 31
abbrev sODoor : Stmt := top 32
abbrev sOWork : Stmt := top 33
abbrev sOReap : Stmt := top 34
abbrev sOOut : Stmt := top 35
def CardC (CD CR CC CU : Addr) : CT := fun H c k own => ∃ m, CardAt CD CR CC CU H c m own ∧ Rel m k ∧ WF k
theorem cardP {CD CR CC CU : Addr} : CardP CD (CardC CD CR CC CU) where
  live := fun {H c m own b} ⟨_, ⟨L, h⟩, _⟩ z => by
    cases e : own b with
    | none => exact absurd e z
    | some t => exact h.live e
  same := fun {H H' c m own} ⟨m', ⟨L, h⟩, r, w⟩ z => ⟨m', ⟨L, h.same z⟩, r, w⟩
  upd := fun {H c m own b o0 o} ⟨m', ⟨L, h⟩, r, w⟩ z e n => ⟨m', ⟨L, h.foreign z e n⟩, r, w⟩
structure OTxt (K : PySem.W.Frag) (mg : Str → Option Value) (CD CR CC CU : Addr) : Prop where
  C : CTxt K mg CD CR CC CU
  gNM : ∃ t, mg "NOT_WITH_MACHINE" = some (.int (-4) t)
  gRF : ∃ t, mg "RING_FULL" = some (.int (-5) t)
  gNT : ∃ t, mg "NONE_THERE" = some (.int (-6) t)
  gD : mg "Descriptor" = some (.ref CD)
/-- a new list at the end, handed back: what spOn asks -/
theorem fin_new {CD CR CC CU : Addr} {H H' : Hp} {c : Addr} {k : Sj50.Card} {own own' : Owns} (h : CardC CD CR CC CU H' c k own') (co : COut H H' own) {t : Addr} (ht : H' t = none) (o : HO) :
    CardC CD CR CC CU (upd H' t o) c k own' ∧ COutW CD H (upd H' t o) own ∧ own' t = none ∧ Fresh H own t := by
  have o1 : own' t = none := by
    cases e : own' t with
    | none => rfl
    | some u => exact absurd ht (cardP.live h (by rw [e]; exact fun z => nomatch z))
  have kn : Fresh H own t := fun b o e z q => by
    have := co b o e z
    rw [q, ht] at this
    cases this
  exact ⟨cardP.same h (Same.upd ht), fun b u e z => .inl ((upd_ne (kn b u e z)).trans (co b u e z)), o1, kn⟩
theorem fin_newS {CD CR CC CU : Addr} {H H' : Hp} {c : Addr} {k : Sj50.Card} {own own' : Owns} (h : CardC CD CR CC CU H' c k own') (co : COut H H' own) {t : Addr} (ht : H' t = none) (o : HO) : COut H (upd H' t o) own := fun b u e z => (upd_ne fun q => by
  have := co b u e z
  rw [q, ht] at this
  cases this).trans (co b u e z)
theorem fin_newW {CD CR CC CU : Addr} {H H' : Hp} {c : Addr} {k : Sj50.Card} {own own' : Owns} (h : CardC CD CR CC CU H' c k own') (co : COutW CD H H' own) {t : Addr} (ht : H' t = none) (o : HO) :
    CardC CD CR CC CU (upd H' t o) c k own' ∧ COutW CD H (upd H' t o) own ∧ own' t = none ∧ Fresh H own t := by
  have o1 : own' t = none := by
    cases e : own' t with
    | none => rfl
    | some u => exact absurd ht (cardP.live h (by rw [e]; exact fun z => nomatch z))
  have kn : Fresh H own t := fun b o e z q => by
    have := co.live e z
    rw [q] at this
    exact this ht
  refine ⟨cardP.same h (Same.upd ht), fun b u e z => ?_, o1, kn⟩
  have nb := kn b u e z
  rcases co b u e z with y | ⟨dx, fs, fs', y1, y2⟩
  · exact .inl ((upd_ne nb).trans y)
  · exact .inr ⟨dx, fs, fs', y1, (upd_ne nb).trans y2⟩
section
variable {P : Program} {w : World} {K : PySem.W.Frag} {mg : Str → Option Value} {base : Heap} {CD CR CC CU : Addr}
/-! ### door -/
def M.door (m : M) (i : Nat) : M := { m with ring := upd1 m.ring i { m.ring i with posted := [], seen := (m.ring i).seen ++ (m.ring i).posted } }
theorem lentM_door (r : Sj50.Ring) : lentM { r with posted := [], seen := r.seen ++ r.posted } = { lentM r with posted := [], seen := (lentM r).seen ++ (lentM r).posted } := by
  unfold lentM
  simp only [List.map_append, List.map_nil]
theorem Rel.door {m : M} {c : Sj50.Card} {r : Int} (h : Rel m c) (w : WF c) (hr : 0 ≤ r ∧ r ≤ 4) : Rel (m.door r.toNat) (Sj50.on c (.door r)).1 ∧ (Sj50.on c (.door r)).2 = Sj50.just ((m.ring r.toNat).posted.length : Nat) := by
  have hin : ¬ (!Sj50.isIn 0 4 r) = true := by simp [Sj50.isIn]; omega
  unfold Sj50.on
  dsimp only
  rw [if_neg hin]
  by_cases e : r = 4
  · rw [if_pos e]
    subst e
    refine ⟨⟨h.size, h.bufs, h.mine, fun i hi => ?_, ?_, h.part, h.part4, h.out, h.many, h.late, h.turn, h.sent, h.since, h.come, h.drop, h.ticks⟩, ?_⟩
    · show upd1 m.ring 4 _ i = c.ring i
      rw [upd1_ne (by omega)]
      exact h.ring i hi
    · show upd1 m.ring 4 { m.ring 4 with posted := [], seen := (m.ring 4).seen ++ (m.ring 4).posted } 4 = _
      rw [upd1_same, h.lent]
      exact (lentM_door c.lent).symm
    · show Sj50.just _ = Sj50.just (((m.ring 4).posted.length : Nat) : Int)
      rw [h.lent]
      show _ = Sj50.just (((c.lent.posted.map z0).length : Nat) : Int)
      rw [List.length_map]
      rfl
  · rw [if_neg e]
    have hk : r.toNat < 4 := by omega
    refine ⟨⟨h.size, h.bufs, h.mine, fun i hi => ?_, ?_, h.part, h.part4, h.out, h.many, h.late, h.turn, h.sent, h.since, h.come, h.drop, h.ticks⟩, ?_⟩
    · rw [ring_set w hk]
      show upd1 m.ring r.toNat _ i = _
      unfold upd1
      split
      · rw [h.ring _ hk]
      · exact h.ring i hi
    · show upd1 m.ring r.toNat _ 4 = lentM c.lent
      rw [upd1_ne (by omega)]
      exact h.lent
    · rw [h.ring _ hk]
      rfl
theorem scODoor : FnScope ["card", "numbers"] ["card", "numbers"] (defScope sODoor) := ⟨rfl, rfl, rfl, by decide +kernel, rfl, by decide +kernel, by decide +kernel⟩
theorem callOf5 {xs : List Int} {k : Sj50.Call} (h : Sj50Neutral.callOf (5 :: xs) = some k) : ∃ r, xs = [r] ∧ k = .door r := by
  unfold Sj50Neutral.callOf at h
  split at h <;> first
    | (rename_i e; injection e with e1 e2; cases h; exact ⟨_, e2, rfl⟩)
    | (rename_i e; injection e with e1 e2; exact absurd e1 (by decide))
    | cases h
theorem ok_odoor {f fS : Addr} {fd fdS : FuncData} (F : Fun K "answer_door" "answer_door" sODoor f fd) (T : OTxt K mg CD CR CC CU)
    (FS : Fun K "show_posted" "Ring.show_posted" sRShow fS fdS) (bS : Binds K fdS ["self"] []) (mS : Meth K CR "show_posted" fS) : FnOk P w K mg base CX0 2 f fd ["card", "numbers"] (spOn CD (CardC CD CR CC CU) 5) := by
  have GS : FnOk P w K mg base CX0 1 fS fdS ["self"] (spShow CD CR) := ok_show FS T.C.R
  refine F.ok scODoor (fun vs H Q E h => ?_) (fun cdv A outer s H vs Q E hr h => ?_)
  · obtain ⟨c, q, k, own, xs, kk, rfl, _⟩ := h
    rfl
  · obtain ⟨c, q, k, own, xs, kk, rfl, ⟨m, ⟨L, h⟩, rel, wf⟩, oq, hq, hk, hw, kont⟩ := h
    obtain ⟨r, rfl, rfl⟩ := callOf5 hk
    simp [rangesOf, within] at hw
    obtain ⟨rel', eans⟩ := rel.door wf hw
    have wf' := wf_on wf (.door r)
    rw [eans] at kont
    have hi : r.toNat < 5 := by omega
    have er : r = ((r.toNat : Nat) : Int) := by omega
    refine ⟨_, pss_one (ps_ret (pe_lst (pa_cons (pe_meth0 (pe_ix ix_list (pe_fld (pv 0) rfl) (pe_ix ix_list (pv 1) pe_int (fun _ _ => rfl)) (fun _ _ => rfl)) T.C.R.cl mS GS hr bS .nil pass0) pa_nil))), ?_⟩
    obtain ⟨rdx, rp, rs, rd, rf, _, _, _, _, _, ha, _⟩ := id (h.hr _ hi)
    refine ⟨_, rfl, c, CC, L.dx, _, _, rfl, h.hc, T.C.cl, T.C.na _ (by decide +kernel), lk_zip (i := 3) (by decide +kernel) rfl, _, rfl, q, _, _, _, rfl, rfl, SqL.of hq, rfl, L.rl, _, _, _, rfl, rfl, SqL.of h.hrl, (by rw [er]; exact atI_nat (range5 hi)), L.ra r.toNat, rdx, _, rfl, ha,
      rF_no _ _ _ _ _ (by decide +kernel) (by decide +kernel) (by decide +kernel) (by decide +kernel) (by decide +kernel), L.ra r.toNat, _, _, _, _, rfl, h.hr _ hi, Nat.le_trans ((rel.fit wf).used _ hi) (by decide), fun H1 F1 R1 o1 n1 => ?_⟩
    obtain ⟨h1, co1, cn1⟩ := h.ring T.C.R.ne hi R1 o1 n1
    rw [upd1_self] at h1
    refine ⟨(by show 1 ≤ sizeLine; decide), fun t ht => ?_⟩
    have hC : CardC CD CR CC CU H1 c (Sj50.on k (.door r)).1 _ := ⟨_, ⟨_, h1⟩, rel', wf'⟩
    obtain ⟨f1, f2, f3, f4⟩ := fin_new hC co1 ht (.lst [.int (((m.ring r.toNat).posted.length : Nat) : Int)])
    exact kont _ _ t f1 f2 cn1 f3 f4 upd_same
end
end Rg

namespace Rg
open PySem PySem.Spec PyProof.Rows L2
theorem callOf3 {xs : List Int} {k : Sj50.Call} (h : Sj50Neutral.callOf (3 :: xs) = some k) : ∃ b, xs = [b] ∧ k = .read b := by
  unfold Sj50Neutral.callOf at h
  split at h <;> first
    | (rename_i e; injection e with e1 e2; cases h; exact ⟨_, e2, rfl⟩)
    | (rename_i e; injection e with e1 e2; exact absurd e1 (by decide))
    | cases h
theorem callOf6 {xs : List Int} {k : Sj50.Call} (h : Sj50Neutral.callOf (6 :: xs) = some k) : ∃ n, xs = [n] ∧ k = .work n := by
  unfold Sj50Neutral.callOf at h
  split at h <;> first
    | (rename_i e; injection e with e1 e2; cases h; exact ⟨_, e2, rfl⟩)
    | (rename_i e; injection e with e1 e2; exact absurd e1 (by decide))
    | cases h
theorem callOf8 {xs : List Int} {k : Sj50.Call} (h : Sj50Neutral.callOf (8 :: xs) = some k) : xs = [] ∧ k = .out := by
  unfold Sj50Neutral.callOf at h
  split at h <;> first
    | (rename_i e; injection e with e1 e2; cases h; exact ⟨e2, rfl⟩)
    | (rename_i e; injection e with e1 e2; exact absurd e1 (by decide))
    | cases h
theorem callOf2 {xs : List Int} {k : Sj50.Call} (h : Sj50Neutral.callOf (2 :: xs) = some k) : ∃ b n r, xs = b :: n :: r ∧ k = .write b n r ∧ r.length = Sj50Neutral.many n 256 ∧ Sj50Neutral.bytesOk r = true := by
  unfold Sj50Neutral.callOf at h
  split at h <;> first
    | (rename_i e; injection e with e1 e2; obtain ⟨h1, h2, h3⟩ := if_some h; exact ⟨_, _, _, e2, h1.symm, h2, h3⟩)
    | (rename_i e; injection e with e1 e2; exact absurd e1 (by decide))
    | cases h
theorem callOf4 {xs : List Int} {k : Sj50.Call} (h : Sj50Neutral.callOf (4 :: xs) = some k) : ∃ r b n t, xs = [r, b, n, t] ∧ k = .post r b n t := by
  unfold Sj50Neutral.callOf at h
  split at h <;> first
    | (rename_i e; injection e with e1 e2; cases h; exact ⟨_, _, _, _, e2, rfl⟩)
    | (rename_i e; injection e with e1 e2; exact absurd e1 (by decide))
    | cases h
theorem callOf7 {xs : List Int} {k : Sj50.Call} (h : Sj50Neutral.callOf (7 :: xs) = some k) : ∃ r, xs = [r] ∧ k = .reap r := by
  unfold Sj50Neutral.callOf at h
  split at h <;> first
    | (rename_i e; injection e with e1 e2; cases h; exact ⟨_, e2, rfl⟩)
    | (rename_i e; injection e with e1 e2; exact absurd e1 (by decide))
    | cases h
theorem ints_bV (l : Sj50.Bytes) : (Sj50.ints l).map V.int = bV l := by
  unfold Sj50.ints bV
  rw [List.map_map]
  rfl
theorem atI_int {α : Type} {xs : List α} {b : Int} {v : α} (hb : 0 ≤ b) (h : xs[b.toNat]? = some v) : atI xs b = some v := by
  have := atI_nat h
  rw [Int.toNat_of_nonneg hb] at this
  exact this
section
variable {P : Program} {w : World} {K : PySem.W.Frag} {mg : Str → Option Value} {base : Heap} {CD CR CC CU : Addr}
/-! ### work -/
theorem scOWork : FnScope ["card", "numbers"] ["card", "numbers"] (defScope sOWork) := ⟨rfl, rfl, rfl, by decide +kernel, rfl, by decide +kernel, by decide +kernel⟩
theorem ok_owork {f fW : Addr} {fd fdW : FuncData} (F : Fun K "answer_work" "answer_work" sOWork f fd) (T : OTxt K mg CD CR CC CU)
    (GW : FnOk P w K mg base CX0 5 fW fdW ["self", "most"] (spWork CD CR CC CU)) (bW : Binds K fdW ["self", "most"] []) (mW : Meth K CC "work" fW) : FnOk P w K mg base CX0 6 f fd ["card", "numbers"] (spOn CD (CardC CD CR CC CU) 6) := by
  refine F.ok scOWork (fun vs H Q E h => ?_) (fun cdv A outer s H vs Q E hr h => ?_)
  · obtain ⟨c, q, k, own, xs, kk, rfl, _⟩ := h
    rfl
  · obtain ⟨c, q, k, own, xs, kk, rfl, ⟨m, hc, rel, wf⟩, oq, hq, hk, hw, kont⟩ := h
    obtain ⟨n, rfl, rfl⟩ := callOf6 hk
    simp [rangesOf, within] at hw
    obtain ⟨L, h⟩ := id hc
    have en : n = ((n.toNat : Nat) : Int) := by omega
    obtain ⟨e1, e2⟩ := Rel.works (n := n.toNat) rel wf
    have eon : Sj50.on k (.work n) = ((Sj50.Card.works n.toNat k).2, Sj50.just (((Sj50.Card.works n.toNat k).1 : Nat) : Int)) := by
      unfold Sj50.on
      dsimp only
      rw [if_neg (by simp [Sj50.isIn]; omega)]
      rfl
    have wf' := wf_on wf (.work n)
    rw [eon] at kont wf'
    refine ⟨_, pss_one (ps_ret (pe_lst (pa_cons (pe_meth (pv 0) T.C.cl mW GW hr bW .nil pass0 (pa_cons (pe_ix ix_list (pv 1) pe_int (fun _ _ => rfl)) pa_nil)) pa_nil))), ?_⟩
    refine ⟨_, rfl, c, L.dx, _, rfl, h.hc, cF_no (by decide +kernel), _, rfl, q, _, _, _, rfl, rfl, SqL.of hq, rfl, c, m, own, n.toNat, (fun m => ∃ c, Rel m c ∧ WF c), (by rw [← en]; rfl), hc, ⟨k, rel, wf⟩, fun m ⟨c, r, w⟩ => r.fit w, fun m m' ⟨c, r, w⟩ e => ?_, fun H1 own1 h1 co1 cn1 => ?_⟩
    · obtain ⟨c', e', r'⟩ := (r.step w).2 m' e
      exact ⟨c', r', wf_work w e'⟩
    refine ⟨(by show 1 ≤ sizeLine; decide), fun t ht => ?_⟩
    have hC : CardC CD CR CC CU H1 c (Sj50.Card.works n.toNat k).2 own1 := ⟨_, h1, e2, wf'⟩
    obtain ⟨f1, f2, f3, f4⟩ := fin_new hC co1 ht (.lst [.int (((M.works n.toNat m).1 : Nat) : Int)])
    refine kont _ _ t f1 f2 cn1 f3 f4 ?_
    rw [← e1]
    exact upd_same
/-! ### out -/
theorem scOOut : FnScope ["card", "numbers", "frame"] ["card", "numbers"] (defScope sOOut) := ⟨rfl, rfl, rfl, by decide +kernel, rfl, by decide +kernel, by decide +kernel⟩
theorem ok_oout {f : Addr} {fd : FuncData} (F : Fun K "answer_out" "answer_out" sOOut f fd) (T : OTxt K mg CD CR CC CU) : FnOk P w K mg base CX0 1 f fd ["card", "numbers"] (spOn CD (CardC CD CR CC CU) 8) := by
  refine F.ok scOOut (fun vs H Q E h => ?_) (fun cdv A outer s H vs Q E hr h => ?_)
  · obtain ⟨c, q, k, own, xs, kk, rfl, _⟩ := h
    rfl
  · obtain ⟨c, q, k, own, xs, kk, rfl, ⟨m, ⟨L, h⟩, rel, wf⟩, oq, hq, hk, hw, kont⟩ := h
    obtain ⟨rfl, rfl⟩ := callOf8 hk
    obtain ⟨tN, gN⟩ := T.gNT
    have wf' := wf_on wf .out
    have hol : L.oas.length = m.out.length := Paired.len h.hoa
    refine ⟨_, pss_cons (ps_if (pt_cmpR op_eq (pe_callB call_len_seq (by rfl) T.C.len PySem.boot_len (pa_cons (pe_fld (pv 0) rfl) pa_nil)) pe_int (nomark _)) (pss_one (ps_ret (pe_lst (pa_cons (pe_glob (v := .int (-6)) rfl gN ⟨_, rfl⟩) pa_nil)))) pss_nil)
      (pss_cons (ps_set (i := 2) scOOut.nd rfl (Or.inl rfl) (pe_bm PySem.F.plainAttrs_list PySem.F.slot_list_pop PySem.F.type_list_pop mt_popAt (pe_fld (pv 0) rfl) (pa_cons pe_int pa_nil)))
      (pss_one (ps_ret (pe_op op_cat (pe_lst (pa_cons (pe_callB call_len_seq (by rfl) T.C.len PySem.boot_len (pa_cons (pv 2) pa_nil)) pa_nil)) (pv 2))))), ?_⟩
    refine ⟨_, rfl, c, CC, L.dx, _, _, rfl, h.hc, T.C.cl, T.C.na _ (by decide +kernel), lk_zip (i := 5) (by decide +kernel) rfl, L.ol, _, rfl, .inl (SqL.of h.hol), rfl, _, rfl, ?_⟩
    cases eo : k.out with
    | nil =>
      have e0 : L.oas = [] := List.eq_nil_of_length_eq_zero (by rw [hol, rel.out, eo]; rfl)
      rw [decide_eq_true (show V.int ((L.oas.map V.ref).length : Int) = V.int 0 by rw [e0]; rfl)]
      have eon : Sj50.on k .out = (k, Sj50.just (-6)) := by
        unfold Sj50.on
        dsimp only
        rw [eo]
      rw [eon] at kont
      refine iteT ⟨(by show 1 ≤ sizeLine; decide), fun t ht => ?_⟩
      obtain ⟨f1, f2, f3, f4⟩ := fin_new (own := own) (⟨m, ⟨L, h⟩, rel, wf⟩ : CardC CD CR CC CU H c k own) (COut.refl _ _) ht (.lst [.int (-6)])
      exact kont _ _ t f1 f2 (CNew.refl _ _) f3 f4 upd_same
    | cons fr fs =>
      have eon : Sj50.on k .out = ({ k with out := fs }, ⟨Sj50.nat fr.length, Sj50.ints fr⟩) := by
        unfold Sj50.on
        dsimp only
        rw [eo]
      rw [eon] at kont wf'
      have hoa := h.hoa
      rw [rel.out, eo] at hoa
      generalize eoas : L.oas = oas at hoa
      rcases hoa with _ | ⟨hb, ht⟩
      rename_i a oas'
      have hooa := h.ooa
      have hhol := h.hol
      rw [eoas] at hooa hhol
      rw [decide_eq_false (show ¬ V.int (((a :: oas').map V.ref).length : Int) = V.int 0 from fun e => by injection e with e; simp at e; omega)]
      refine iteF ?_
      refine ⟨_, rfl, c, CC, L.dx, _, _, rfl, h.hc, T.C.cl, T.C.na _ (by decide +kernel), lk_zip (i := 5) (by decide +kernel) rfl, .inl ⟨rfl, _, SqL.of hhol⟩, L.ol, _, 0, 0, .ref a, rfl, rfl, hhol, by decide, by decide, ?_, rfl, ?_⟩
      · rw [List.length_map, List.length_cons]
        unfold seqIndex?
        simp
      have h1 := h.outsU (l := oas') (fs := fs) (fun x hx => hooa x (List.mem_cons_of_mem _ hx)) ht
      have co1 := h.outU (o := .lst (oas'.map V.ref)) h.ool
      have ao : own a = some 6 := hooa a (List.mem_cons_self ..)
      have ha1 : upd H L.ol (.lst (oas'.map V.ref)) a = some (.lst (bV fr)) := (h.other h.ool ao (by decide)).trans hb
      have hC : CardC CD CR CC CU (upd H L.ol (.lst (oas'.map V.ref))) c { k with out := fs } own := ⟨_, ⟨_, h1⟩, ⟨rel.size, rel.bufs, rel.mine, rel.ring, rel.lent, rel.part, rel.part4, rfl, rel.many, rel.late, rel.turn, rel.sent, rel.since, rel.come, rel.drop, rel.ticks⟩, wf'⟩
      refine ⟨_, rfl, a, _, rfl, .inl (SqL.of ha1), (by show 1 ≤ sizeLine; decide), fun p1 hp1 => ?_⟩
      have hfl : fr.length ≤ 4096 := wf.outLen fr (by rw [eo]; exact List.mem_cons_self ..)
      refine ⟨_, rfl, p1, a, _, _, rfl, rfl, upd_same, (Same.upd hp1) _ _ ha1, ?_, fun t ht => ?_⟩
      · rw [bV_len]
        exact Nat.le_trans (show _ ≤ 5000 by simp only [List.length_cons, List.length_nil]; omega) (by decide)
      have co2 : COut H (upd (upd H L.ol (.lst (oas'.map V.ref))) p1 (.lst [.int ((bV fr).length : Nat)])) own := fun b o e z => (Same.upd hp1) _ _ (co1 b o e z)
      obtain ⟨f1, f2, f3, f4⟩ := fin_new (cardP.same hC (Same.upd hp1)) co2 ht (.lst ([.int ((bV fr).length : Nat)] ++ bV fr))
      refine kont _ _ t f1 f2 (CNew.refl _ _) f3 f4 ?_
      show _ = some (HO.lst (V.int ((fr.length : Nat) : Int) :: (Sj50.ints fr).map V.int))
      rw [ints_bV, upd_same, bV_len]
      rfl
/-! ### read -/
theorem scORead : FnScope ["card", "numbers", "buffer"] ["card", "numbers"] (defScope sORead) := ⟨rfl, rfl, rfl, by decide +kernel, rfl, by decide +kernel, by decide +kernel⟩
theorem Rel.mine_at {m : M} {c : Sj50.Card} (r : Rel m c) (w : WF c) {b : Int} (hb : 0 ≤ b ∧ b ≤ 63) : m.mine[b.toNat]? = some (Sj50.isMine c b) := by
  have h1 : b.toNat < c.at_.length := by rw [w.at_]; omega
  rw [r.mine, List.getElem?_map, List.getElem?_eq_getElem h1]
  unfold Sj50.isMine
  rw [show Sj50.isIn 0 63 b = true by simp [Sj50.isIn]; omega, Bool.true_and, List.getD_eq_getElem?_getD, List.getElem?_eq_getElem h1]
  rfl
theorem ok_oread {f : Addr} {fd : FuncData} (F : Fun K "answer_read" "answer_read" sORead f fd) (T : OTxt K mg CD CR CC CU) : FnOk P w K mg base CX0 1 f fd ["card", "numbers"] (spOn CD (CardC CD CR CC CU) 3) := by
  refine F.ok scORead (fun vs H Q E h => ?_) (fun cdv A outer s H vs Q E hr h => ?_)
  · obtain ⟨c, q, k, own, xs, kk, rfl, _⟩ := h
    rfl
  · obtain ⟨c, q, k, own, xs, kk, rfl, ⟨m, ⟨L, h⟩, rel, wf⟩, oq, hq, hk, hw, kont⟩ := h
    obtain ⟨b, rfl, rfl⟩ := callOf3 hk
    simp [rangesOf, within] at hw
    obtain ⟨tN, gN⟩ := T.gNM
    have eb : b = ((b.toNat : Nat) : Int) := by omega
    have hmine := rel.mine_at wf hw
    refine ⟨_, pss_cons (ps_set (i := 2) scORead.nd rfl (Or.inl rfl) (pe_ix ix_list (pv 1) pe_int (fun _ _ => rfl)))
      (pss_cons (ps_if (pt_not (pt_val (pe_ix ix_list (pe_fld (pv 0) rfl) (pv 2) (fun _ _ => rfl)))) (pss_one (ps_ret (pe_lst (pa_cons (pe_glob (v := .int (-4)) rfl gN ⟨_, rfl⟩) pa_nil)))) pss_nil)
      (pss_one (ps_ret (pe_op op_cat (pe_lst (pa_cons pe_int pa_nil)) (pe_ix ix_list (pe_fld (pv 0) rfl) (pv 2) (fun _ _ => rfl)))))), ?_⟩
    refine ⟨_, rfl, q, _, _, _, rfl, rfl, SqL.of hq, rfl, ?_⟩
    refine ⟨_, rfl, c, CC, L.dx, _, _, rfl, h.hc, T.C.cl, T.C.na _ (by decide +kernel), lk_zip (i := 2) (by decide +kernel) rfl, _, rfl, L.ml, _, _, .bl (Sj50.isMine k b), rfl, rfl, SqL.of h.hml, atI_int hw.1 (by rw [List.getElem?_map, hmine]; rfl), _, rfl, ?_⟩
    have hon : Sj50.on k (.read b) = if (!Sj50.isMine k b) = true then (k, Sj50.just (-4)) else (k, ⟨0, Sj50.ints (k.buf b.toNat)⟩) := by
      unfold Sj50.on
      dsimp only
      rw [if_neg (by simp [Sj50.isIn]; omega)]
    have hC : CardC CD CR CC CU H c k own := ⟨m, ⟨L, h⟩, rel, wf⟩
    cases em : Sj50.isMine k b with
    | false =>
      rw [em, if_pos (by decide)] at hon
      rw [hon] at kont
      refine iteT ⟨(by show 1 ≤ sizeLine; decide), fun t ht => ?_⟩
      obtain ⟨f1, f2, f3, f4⟩ := fin_new hC (COut.refl _ _) ht (.lst [.int (-4)])
      exact kont _ _ t f1 f2 (CNew.refl _ _) f3 f4 upd_same
    | true =>
      rw [em, if_neg (by decide)] at hon
      rw [hon] at kont
      have hbl : b.toNat < m.bufs.length := by rw [rel.bufs, wf.bufs]; omega
      obtain ⟨ba, hba, hbb⟩ := Paired.get h.hba (getD_some (z := []) hbl)
      have ebuf : m.bufs.getD b.toNat [] = k.buf b.toNat := by rw [rel.bufs]; rfl
      rw [ebuf] at hbb
      refine iteF ⟨(by show 1 ≤ sizeLine; decide), fun p1 hp1 => ?_⟩
      have s1 := Same.upd (o := .lst [V.int 0]) hp1
      have h1 := h.same s1
      refine ⟨_, rfl, c, CC, L.dx, _, _, rfl, h1.hc, T.C.cl, T.C.na _ (by decide +kernel), lk_zip (i := 1) (by decide +kernel) rfl, _, rfl, L.bl, _, _, .ref ba, rfl, rfl, SqL.of h1.hbl, atI_int hw.1 (by rw [List.getElem?_map, hba]; rfl), p1, ba, _, _, rfl, rfl, upd_same, s1 _ _ hbb, ?_, fun t ht => ?_⟩
      · rw [bV_len, wf.bufLen (show b.toNat < 64 by omega)]
        decide
      obtain ⟨f1, f2, f3, f4⟩ := fin_new (own := own) (cardP.same hC s1) (fun b o e _ => s1 _ _ e) ht (.lst ([.int 0] ++ bV (k.buf b.toNat)))
      refine kont _ _ t f1 f2 (CNew.refl _ _) f3 f4 ?_
      show _ = some (HO.lst (V.int 0 :: (Sj50.ints (k.buf b.toNat)).map V.int))
      rw [ints_bV, upd_same]
      rfl
end
end Rg

/-! The calls 9 to 15 by their numbers. -/
namespace Rg
theorem callOf9 {xs : List Int} {k : Sj50.Call} (h : Sj50Neutral.callOf (9 :: xs) = some k) : ∃ r, xs = [r] ∧ k = .lend r := by
  unfold Sj50Neutral.callOf at h
  split at h <;> first
    | (rename_i e; injection e with e1 e2; cases h; exact ⟨_, e2, rfl⟩)
    | (rename_i e; injection e with e1 e2; exact absurd e1 (by decide))
    | cases h
theorem callOf10 {xs : List Int} {k : Sj50.Call} (h : Sj50Neutral.callOf (10 :: xs) = some k) : ∃ n r, xs = n :: r ∧ k = .wire n r ∧ (1 ≤ n → n ≤ 1024 → r.length = n.toNat) ∧ Sj50Neutral.bytesOk r = true := by
  unfold Sj50Neutral.callOf at h
  split at h <;> first
    | (rename_i e; injection e with e1 e2; obtain ⟨h1, h2, h3⟩ := if_some h; refine ⟨_, _, e2, h1.symm, fun a b => ?_, h3⟩; rw [h2, if_pos a]; unfold Sj50Neutral.many; rw [if_pos ⟨by omega, b⟩])
    | (rename_i e; injection e with e1 e2; exact absurd e1 (by decide))
    | cases h
theorem callOf11 {xs : List Int} {k : Sj50.Call} (h : Sj50Neutral.callOf (11 :: xs) = some k) : xs = [] ∧ k = .take := by
  unfold Sj50Neutral.callOf at h
  split at h <;> first
    | (rename_i e; injection e with e1 e2; cases h; exact ⟨e2, rfl⟩)
    | (rename_i e; injection e with e1 e2; exact absurd e1 (by decide))
    | cases h
theorem callOf12 {xs : List Int} {k : Sj50.Call} (h : Sj50Neutral.callOf (12 :: xs) = some k) : ∃ r, xs = [r] ∧ k = .tick r := by
  unfold Sj50Neutral.callOf at h
  split at h <;> first
    | (rename_i e; injection e with e1 e2; cases h; exact ⟨_, e2, rfl⟩)
    | (rename_i e; injection e with e1 e2; exact absurd e1 (by decide))
    | cases h
theorem callOf13 {xs : List Int} {k : Sj50.Call} (h : Sj50Neutral.callOf (13 :: xs) = some k) : xs = [] ∧ k = .cause := by
  unfold Sj50Neutral.callOf at h
  split at h <;> first
    | (rename_i e; injection e with e1 e2; cases h; exact ⟨e2, rfl⟩)
    | (rename_i e; injection e with e1 e2; exact absurd e1 (by decide))
    | cases h
theorem callOf14 {xs : List Int} {k : Sj50.Call} (h : Sj50Neutral.callOf (14 :: xs) = some k) : ∃ r, xs = [r] ∧ k = .state r := by
  unfold Sj50Neutral.callOf at h
  split at h <;> first
    | (rename_i e; injection e with e1 e2; cases h; exact ⟨_, e2, rfl⟩)
    | (rename_i e; injection e with e1 e2; exact absurd e1 (by decide))
    | cases h
theorem callOf15 {xs : List Int} {k : Sj50.Call} (h : Sj50Neutral.callOf (15 :: xs) = some k) : xs = [] ∧ k = .counts := by
  unfold Sj50Neutral.callOf at h
  split at h <;> first
    | (rename_i e; injection e with e1 e2; cases h; exact ⟨e2, rfl⟩)
    | (rename_i e; injection e with e1 e2; exact absurd e1 (by decide))
    | cases h
end Rg

namespace Rg
open PySem PySem.Spec PyProof.Rows L2
theorem nats_bV : ∀ {r : List Int}, Sj50Neutral.bytesOk r = true → r.map V.int = bV (Sj50.nats r)
  | [], _ => rfl
  | x :: r, h => by
    unfold Sj50Neutral.bytesOk at h
    rw [List.all_cons, Bool.and_eq_true, Bool.and_eq_true, decide_eq_true_eq, decide_eq_true_eq] at h
    show V.int x :: r.map V.int = V.int ((x.toNat : Nat) : Int) :: bV (Sj50.nats r)
    rw [nats_bV (r := r) h.2, Int.toNat_of_nonneg h.1.1]
section
variable {P : Program} {w : World} {K : PySem.W.Frag} {mg : Str → Option Value} {base : Heap} {CD CR CC CU : Addr}
/-! ### write -/
theorem scOWrite : FnScope ["card", "numbers", "buffer", "length"] ["card", "numbers"] (defScope sOWrite) := ⟨rfl, rfl, rfl, by decide +kernel, rfl, by decide +kernel, by decide +kernel⟩
theorem ok_owrite {f fW : Addr} {fd fdW : FuncData} (F : Fun K "answer_write" "answer_write" sOWrite f fd) (T : OTxt K mg CD CR CC CU)
    (FW : Fun K "write" "Card.write" sCWrite fW fdW) (bW : Binds K fdW ["self", "buffer", "data"] []) (mW : Meth K CC "write" fW) : FnOk P w K mg base CX0 2 f fd ["card", "numbers"] (spOn CD (CardC CD CR CC CU) 2) := by
  have GW : FnOk P w K mg base CX0 1 fW fdW ["self", "buffer", "data"] (spWrite CD CR CC CU) := ok_write FW T.C
  refine F.ok scOWrite (fun vs H Q E h => ?_) (fun cdv A outer s H vs Q E hr h => ?_)
  · obtain ⟨c, q, k, own, xs, kk, rfl, _⟩ := h
    rfl
  · obtain ⟨c, q, k, own, xs, kk, rfl, ⟨m, hc, rel, wf⟩, oq, hq, hk, hw, kont⟩ := h
    obtain ⟨b, n, r, rfl, rfl, hrl, hby⟩ := callOf2 hk
    simp [rangesOf, within] at hw
    obtain ⟨L, h⟩ := id hc
    obtain ⟨tN, gN⟩ := T.gNM
    have hb : 0 ≤ b ∧ b ≤ 63 := by omega
    have hn : 0 ≤ n ∧ n ≤ 256 := by omega
    have hrl' : r.length = n.toNat := by
      rw [hrl]
      unfold Sj50Neutral.many
      rw [if_pos hn]
    have eb : b = ((b.toNat : Nat) : Int) := by omega
    have hmine := rel.mine_at wf hb
    have wf' := wf_on wf (.write b n r)
    have hon : Sj50.on k (.write b n r) = if (!Sj50.isMine k b) = true then (k, Sj50.just (-4)) else ({ k with bufs := k.bufs.set b.toNat (Sj50.over (k.buf b.toNat) (Sj50.nats (r.take n.toNat))) }, Sj50.just 0) := by
      unfold Sj50.on
      dsimp only
      rw [if_neg (by simp [Sj50.isIn]; omega)]
    refine ⟨_, pss_cons (ps_set (i := 2) scOWrite.nd rfl (Or.inl rfl) (pe_ix ix_list (pv 1) pe_int (fun _ _ => rfl)))
      (pss_cons (ps_if (pt_not (pt_val (pe_ix ix_list (pe_fld (pv 0) rfl) (pv 2) (fun _ _ => rfl)))) (pss_one (ps_ret (pe_lst (pa_cons (pe_glob (v := .int (-4)) rfl gN ⟨_, rfl⟩) pa_nil)))) pss_nil)
      (pss_cons (ps_set (i := 3) scOWrite.nd rfl (Or.inl rfl) (pe_ix ix_list (pv 1) pe_int (fun _ _ => rfl)))
      (pss_cons (ps_expr (pe_meth (pv 0) T.C.cl mW GW hr bW .nil pass0 (pa_cons (pv 2) (pa_cons (pe_slice sl_list (pv 1) (po_some pe_int) (po_some (pe_op op_add pe_int (pv 3)))) pa_nil))))
      (pss_one (ps_ret (pe_lst (pa_cons pe_int pa_nil))))))), ?_⟩
    refine ⟨_, rfl, q, _, _, _, rfl, rfl, SqL.of hq, atI_nat (j := 0) (v := .int b) rfl, ?_⟩
    refine ⟨_, rfl, c, CC, L.dx, _, _, rfl, h.hc, T.C.cl, T.C.na _ (by decide +kernel), lk_zip (i := 2) (by decide +kernel) rfl, _, rfl, L.ml, _, _, .bl (Sj50.isMine k b), rfl, rfl, SqL.of h.hml, atI_int hb.1 (by rw [List.getElem?_map, hmine]; rfl), _, rfl, ?_⟩
    have hC : CardC CD CR CC CU H c k own := ⟨m, hc, rel, wf⟩
    cases em : Sj50.isMine k b with
    | false =>
      rw [em, if_pos (by decide)] at hon
      rw [hon] at kont
      refine iteT ⟨(by show 1 ≤ sizeLine; decide), fun t ht => ?_⟩
      obtain ⟨f1, f2, f3, f4⟩ := fin_new hC (COut.refl _ _) ht (.lst [.int (-4)])
      exact kont _ _ t f1 f2 (CNew.refl _ _) f3 f4 upd_same
    | true =>
      rw [em, if_neg (by decide)] at hon
      rw [hon] at kont wf'
      have hbl : b.toNat < m.bufs.length := by rw [rel.bufs, wf.bufs]; omega
      have ebuf : m.bufs.getD b.toNat [] = k.buf b.toNat := by rw [rel.bufs]; rfl
      refine iteF ⟨_, rfl, q, _, _, _, rfl, rfl, SqL.of hq, atI_nat (j := 1) (v := .int n) rfl, ?_⟩
      refine ⟨_, rfl, c, L.dx, _, rfl, h.hc, cF_no (by decide +kernel), _, rfl, _, rfl, _, rfl, _, rfl, _, _, rfl, rfl, _, rfl, q, _, rfl, SqL.of hq, fun p1 hp1 => ?_⟩
      have ec : cutV ((b :: n :: r).map V.int) (some 2) (some (2 + n)) = bV (Sj50.nats r) := by
        rw [cut_mid (by omega) (by omega), ← nats_bV hby]
        show (r.map V.int).take _ = _
        rw [List.take_of_length_le (by rw [List.length_map, hrl']; omega)]
      have s1 := Same.upd (o := .lst (cutV ((b :: n :: r).map V.int) (some 2) (some (2 + n)))) hp1
      have hnl : (Sj50.nats r).length ≤ 256 := by
        unfold Sj50.nats
        rw [List.length_map]
        omega
      refine ⟨c, p1, m, own, L, b.toNat, Sj50.nats r, (by rw [← eb]; rfl), h.same s1, hbl, by rw [ebuf, wf.bufLen (by omega)]; exact Nat.le_refl _, hnl, by rw [← ec]; exact upd_same, fun H2 own2 L2 h2 _ _ co2 cn2 => ?_⟩
      refine ⟨(by show 1 ≤ sizeLine; decide), fun t ht => ?_⟩
      have hC2 : CardC CD CR CC CU H2 c { k with bufs := k.bufs.set b.toNat (Sj50.over (k.buf b.toNat) (Sj50.nats (r.take n.toNat))) } own2 := by
        refine ⟨_, ⟨L2, h2⟩, ⟨rel.size, ?_, rel.mine, rel.ring, rel.lent, rel.part, rel.part4, rel.out, rel.many, rel.late, rel.turn, rel.sent, rel.since, rel.come, rel.drop, rel.ticks⟩, wf'⟩
        show m.bufs.set b.toNat (Sj50.over (m.bufs.getD b.toNat []) (Sj50.nats r)) = k.bufs.set b.toNat (Sj50.over (k.buf b.toNat) (Sj50.nats (r.take n.toNat)))
        rw [List.take_of_length_le (Nat.le_of_eq hrl'), ebuf, rel.bufs]
      obtain ⟨f1, f2, f3, f4⟩ := fin_new hC2 (COut.trans (own1 := own) (fun b o e _ => s1 _ _ e) (CNew.refl _ _) co2) ht (.lst [.int 0])
      exact kont _ _ t f1 f2 (CNew.trans (own1 := own) (fun b o e _ => s1 _ _ e) (CNew.refl _ _) cn2) f3 f4 upd_same
/-! ### post -/
theorem Rel.post {m : M} {c : Sj50.Card} {i : Nat} {d : Sj50.Desc} (h : Rel m c) (w : WF c) (hi : i < 4) : Rel (m.post i d) { c with rings := c.rings.set i { c.ring i with posted := (c.ring i).posted ++ [d] }, at_ := c.at_.set d.buf (i + 1) } := by
  refine ⟨h.size, h.bufs, ?_, fun j hj => ?_, ?_, h.part, h.part4, h.out, h.many, h.late, h.turn, h.sent, h.since, h.come, h.drop, h.ticks⟩
  · show m.mine.set d.buf false = (c.at_.set d.buf (i + 1)).map (· == 0)
    rw [List.map_set, h.mine]
    rfl
  · show upd1 m.ring i _ j = (c.rings.set i _).getD j Sj50.empty
    rw [getD_set (by rw [w.rings]; exact hi)]
    unfold upd1
    split
    · rw [h.ring i hi]
    · exact h.ring j hj
  · show upd1 m.ring i _ 4 = lentM c.lent
    rw [upd1_ne (by omega)]
    exact h.lent
abbrev sOPosted : Stmt := top 30
abbrev sOLend : Stmt := top 36
/-- answer_posted(card, ring, descriptor) -/
def spPosted (CD CR CC CU : Addr) : Sp := fun vs H Q _ => ∃ (c x : Addr) (m : M) (own : Owns) (i : Nat) (d : Sj50.Desc) (b : Bool), vs = [.ref c, .int (i : Int), .ref x] ∧ CardAt CD CR CC CU H c m own ∧ Fit m ∧ i < 5 ∧ DescV CD H (.ref x) d ∧ d.buf < 64 ∧ m.mine[d.buf]? = some b ∧
  (b = false → ∀ t, H t = none → Q (.ref t) (upd H t (.lst [.int (-4)]))) ∧ (b = true → (m.ring i).used = m.size → ∀ t, H t = none → Q (.ref t) (upd H t (.lst [.int (-5)]))) ∧
  (b = true → (m.ring i).used ≠ m.size → ∀ H' own' t, CardAt CD CR CC CU H' c (m.post i d) own' → COut H H' own → CNew H own own' → H' t = none → Q (.ref t) (upd H' t (.lst [.int (((m.ring i).used + 1 : Nat) : Int)])))
theorem scOPosted : FnScope ["card", "ring", "descriptor"] ["card", "ring", "descriptor"] (defScope sOPosted) := ⟨rfl, rfl, rfl, by decide +kernel, rfl, by decide +kernel, by decide +kernel⟩
theorem ok_oposted {f fF fP fU : Addr} {fd fdF fdP fdU : FuncData} (F : Fun K "answer_posted" "answer_posted" sOPosted f fd) (T : OTxt K mg CD CR CC CU)
    (FU : Fun K "used" "Ring.used" sRUsed fU fdU) (bU : Binds K fdU ["self"] []) (mU : Meth K CR "used" fU)
    (FF : Fun K "is_full" "Ring.is_full" sRFull fF fdF) (bF : Binds K fdF ["self"] []) (mF : Meth K CR "is_full" fF)
    (FP : Fun K "post" "Card.post" sCPost fP fdP) (bP : Binds K fdP ["self", "ring", "descriptor"] []) (mP : Meth K CC "post" fP) : FnOk P w K mg base CX0 3 f fd ["card", "ring", "descriptor"] (spPosted CD CR CC CU) := by
  have GU : FnOk P w K mg base CX0 1 fU fdU ["self"] (spUsed CD CR) := ok_used FU T.C.R
  have GF : FnOk P w K mg base CX0 2 fF fdF ["self"] (spFull CD CR) := ok_full FF T.C.R FU bU mU
  have GP : FnOk P w K mg base CX0 1 fP fdP ["self", "ring", "descriptor"] (spPost CD CR CC CU) := ok_post FP T.C
  refine F.ok scOPosted (fun vs H Q E h => ?_) (fun cdv A outer s H vs Q E hr h => ?_)
  · obtain ⟨c, x, m, own, i, d, b, rfl, _⟩ := h
    rfl
  · obtain ⟨c, x, m, own, i, d, b, rfl, hc, ft, hi, hd, hb, hmine, k4, k5, k0⟩ := h
    obtain ⟨L, h⟩ := id hc
    obtain ⟨x', dxd, ex, hx⟩ := id hd
    obtain rfl : x = x' := by injection ex
    obtain ⟨tN, gN⟩ := T.gNM
    obtain ⟨tF, gF⟩ := T.gRF
    have hr1 : Room 1 _ := hr.mono (by decide)
    refine ⟨_, pss_cons (ps_if (pt_not (pt_val (pe_ix ix_list (pe_fld (pv 0) rfl) (pe_fld (pv 2) rfl) (fun _ _ => rfl)))) (pss_one (ps_ret (pe_lst (pa_cons (pe_glob (v := .int (-4)) rfl gN ⟨_, rfl⟩) pa_nil)))) pss_nil)
      (pss_cons (ps_if (pt_val (pe_meth0 (pe_ix ix_list (pe_fld (pv 0) rfl) (pv 1) (fun _ _ => rfl)) T.C.R.cl mF GF hr bF .nil pass0)) (pss_one (ps_ret (pe_lst (pa_cons (pe_glob (v := .int (-5)) rfl gF ⟨_, rfl⟩) pa_nil)))) pss_nil)
      (pss_cons (ps_expr (pe_meth (pv 0) T.C.cl mP GP hr1 bP .nil pass0 (pa_cons (pv 1) (pa_cons (pv 2) pa_nil))))
      (pss_one (ps_ret (pe_lst (pa_cons (pe_meth0 (pe_ix ix_list (pe_fld (pv 0) rfl) (pv 1) (fun _ _ => rfl)) T.C.R.cl mU GU hr1 bU .nil pass0) pa_nil)))))), ?_⟩
    refine ⟨_, rfl, c, CC, L.dx, _, _, rfl, h.hc, T.C.cl, T.C.na _ (by decide +kernel), lk_zip (i := 2) (by decide +kernel) rfl, _, rfl, x, CD, dxd, _, _, rfl, hx, T.C.DT.cl, T.C.DT.nB, dF_buffer d, L.ml, _, _, .bl b, rfl, rfl, SqL.of h.hml, atI_nat (by rw [List.getElem?_map, hmine]; rfl), _, rfl, ?_⟩
    cases b with
    | false =>
      exact iteT ⟨(by show 1 ≤ sizeLine; decide), fun t ht => k4 rfl t ht⟩
    | true =>
      refine iteF ?_
      obtain ⟨rdx, rp, rs, rd, rf, _, _, _, _, _, ha, _⟩ := id (h.hr _ hi)
      refine ⟨_, rfl, c, CC, L.dx, _, _, rfl, h.hc, T.C.cl, T.C.na _ (by decide +kernel), lk_zip (i := 3) (by decide +kernel) rfl, _, rfl, L.rl, _, _, _, rfl, rfl, SqL.of h.hrl, atI_nat (range5 hi), L.ra i, rdx, _, rfl, ha, noM (by decide +kernel), L.ra i, _, _, _, _, rfl, h.hr _ hi, _, rfl, ?_⟩
      by_cases c2 : (m.ring i).used = m.size
      · rw [decide_eq_true c2]
        exact iteT ⟨(by show 1 ≤ sizeLine; decide), fun t ht => k5 rfl c2 t ht⟩
      · rw [decide_eq_false c2]
        refine iteF ?_
        refine ⟨_, rfl, c, L.dx, _, rfl, h.hc, cF_no (by decide +kernel), _, rfl, _, rfl, c, x, m, own, i, d, rfl, hc, hi, hd, by rw [ft.mine]; exact hb, Nat.le_trans (ft.used _ hi) (by decide), fun H2 own2 h2 co2 cn2 => ?_⟩
        obtain ⟨L2, h2'⟩ := id h2
        obtain ⟨rdx2, rp2, rs2, rd2, rf2, _, _, _, _, _, ha2, _⟩ := id (h2'.hr _ hi)
        refine ⟨_, rfl, c, CC, L2.dx, _, _, rfl, h2'.hc, T.C.cl, T.C.na _ (by decide +kernel), lk_zip (i := 3) (by decide +kernel) rfl, _, rfl, L2.rl, _, _, _, rfl, rfl, SqL.of h2'.hrl, atI_nat (range5 hi), L2.ra i, rdx2, _, rfl, ha2, noM (by decide +kernel), L2.ra i, _, _, _, _, rfl, h2'.hr _ hi, (by show 1 ≤ sizeLine; decide), fun t' ht' => ?_⟩
        have eu : ((m.post i d).ring i).used = (m.ring i).used + 1 := by
          show (upd1 m.ring i _ i).used = _
          rw [upd1_same]
          unfold Sj50.Ring.used
          simp only [List.length_append, List.length_singleton]
          omega
        show Q (.ref t') (upd H2 t' (.lst [.int ((((m.post i d).ring i).used : Nat) : Int)]))
        rw [eu]
        exact k0 rfl c2 H2 own2 t' h2 co2 cn2 ht'
theorem scOPost : FnScope ["card", "numbers"] ["card", "numbers"] (defScope sOPost) := ⟨rfl, rfl, rfl, by decide +kernel, rfl, by decide +kernel, by decide +kernel⟩
theorem ok_opost {f fP fD : Addr} {fd fdP fdD : FuncData} (F : Fun K "answer_post" "answer_post" sOPost f fd) (T : OTxt K mg CD CR CC CU)
    (GP : FnOk P w K mg base CX0 3 fP fdP ["card", "ring", "descriptor"] (spPosted CD CR CC CU)) (bP : Binds K fdP ["card", "ring", "descriptor"] []) (gP : mg "answer_posted" = some (.ref fP)) (kP : PySem.W.keepIn K (.ref fP) = true)
    (MD : Mk K CD fD) (FD : Fun K "__init__" "Descriptor.__init__" sDesc fD fdD) (bD : Binds K fdD ["self", "buffer", "length", "last"] []) : FnOk P w K mg base CX0 4 f fd ["card", "numbers"] (spOn CD (CardC CD CR CC CU) 4) := by
  have GD : FnOk P w K mg base CX0 1 fD fdD ["self", "buffer", "length", "last"] (spDesc CD) := ok_desc FD T.C.DT
  refine F.ok scOPost (fun vs H Q E h => ?_) (fun cdv A outer s H vs Q E hr h => ?_)
  · obtain ⟨c, q, k, own, xs, kk, rfl, _⟩ := h
    rfl
  · obtain ⟨c, q, k, own, xs, kk, rfl, ⟨m, hc, rel, wf⟩, oq, hq, hk, hw, kont⟩ := h
    obtain ⟨r, b, n, t, rfl, rfl⟩ := callOf4 hk
    simp [rangesOf, within] at hw
    obtain ⟨L, h⟩ := id hc
    have hb : 0 ≤ b ∧ b ≤ 63 := by omega
    have hi : r.toNat < 4 := by omega
    have hi5 : r.toNat < 5 := by omega
    have er : r = ((r.toNat : Nat) : Int) := by omega
    have hmine := rel.mine_at wf hb
    have hr2 : Room 2 _ := hr.mono (by decide)
    have hon : Sj50.on k (.post r b n t) = if (!Sj50.isMine k b) = true then (k, Sj50.just (-4)) else if k.size ≤ (k.ring r.toNat).used then (k, Sj50.just (-5)) else
        ({ k with rings := k.rings.set r.toNat { k.ring r.toNat with posted := (k.ring r.toNat).posted ++ [⟨b.toNat, n.toNat, t == 1⟩] }, at_ := k.at_.set b.toNat (r.toNat + 1) }, Sj50.just (((k.ring r.toNat).used : Nat) + 1)) := by
      unfold Sj50.on
      dsimp only
      rw [if_neg (by simp [Sj50.isIn]; omega)]
      rfl
    have wf' := wf_on wf (.post r b n t)
    have hru := (wf.ringOK r.toNat).used
    refine ⟨_, pss_one (ps_ret (pe_call GP hr rfl gP kP bP .nil pass0 (pa_cons (pv 0) (pa_cons (pe_ix ix_list (pv 1) pe_int (fun _ _ => rfl)) (pa_cons (pe_make MD GD hr2 rfl T.gD bD .nil pass0 (pa_cons (pe_ix ix_list (pv 1) pe_int (fun _ _ => rfl)) (pa_cons (pe_ix ix_list (pv 1) pe_int (fun _ _ => rfl)) (pa_cons (pe_ix ix_list (pv 1) pe_int (fun _ _ => rfl)) pa_nil)))) pa_nil))))), ?_⟩
    refine ⟨_, rfl, _, rfl, q, _, _, _, rfl, rfl, SqL.of hq, rfl, _, rfl, q, _, _, _, rfl, rfl, SqL.of hq, rfl, _, rfl, q, _, _, _, rfl, rfl, SqL.of hq, rfl, _, rfl, q, _, _, _, rfl, rfl, SqL.of hq, rfl, ?_⟩
    intro x dxx nx ndx nex
    have sx : Same H (upd (upd H dxx (.own x)) x (.ins CD dxx (dF ⟨b.toNat, n.toNat, t == 1⟩))) := fun y o e => (upd_ne (ne_of_none e nx)).trans ((upd_ne (ne_of_none e ndx)).trans e)
    have et : V.int t = V.int (Sj50.bit (t == 1)) := by
      have : t = 0 ∨ t = 1 := by omega
      rcases this with rfl | rfl <;> rfl
    refine ⟨x, dxx, ⟨b.toNat, n.toNat, t == 1⟩, ?_, upd_same, rfl, ?_⟩
    · show [V.ref x, V.int b, V.int n, V.int t] = [V.ref x, V.int ((b.toNat : Nat) : Int), V.int ((n.toNat : Nat) : Int), V.int (Sj50.bit (t == 1))]
      rw [← et, Int.toNat_of_nonneg hb.1, Int.toNat_of_nonneg (show 0 ≤ n by omega)]
    rw [upd_upd]
    have hC : CardC CD CR CC CU H c k own := ⟨m, hc, rel, wf⟩
    have hC1 := cardP.same hC sx
    have co1 : COut H (upd (upd H dxx (.own x)) x (.ins CD dxx (dF ⟨b.toNat, n.toNat, t == 1⟩))) own := fun y o e _ => sx _ _ e
    refine ⟨c, x, m, own, r.toNat, ⟨b.toNat, n.toNat, t == 1⟩, Sj50.isMine k b, (by rw [← er]; rfl), ⟨L, h.same sx⟩, rel.fit wf, hi5, ⟨x, dxx, rfl, upd_same⟩, (by show b.toNat < 64; omega), hmine, fun em t' ht' => ?_, fun em c2 t' ht' => ?_, fun em c2 H2 own2 t' h2 co2 cn2 ht' => ?_⟩
    · rw [em, if_pos (by decide)] at hon
      rw [hon] at kont
      obtain ⟨f1, f2, f3, f4⟩ := fin_new hC1 co1 ht' (.lst [.int (-4)])
      exact kont _ _ t' f1 f2 (CNew.refl _ _) f3 f4 upd_same
    · rw [em, if_neg (by decide), if_pos (by rw [← rel.ring _ hi, ← rel.size, c2]; exact Nat.le_refl _)] at hon
      rw [hon] at kont
      obtain ⟨f1, f2, f3, f4⟩ := fin_new hC1 co1 ht' (.lst [.int (-5)])
      exact kont _ _ t' f1 f2 (CNew.refl _ _) f3 f4 upd_same
    · rw [em, if_neg (by decide), if_neg (by rw [← rel.ring _ hi, ← rel.size]; rw [← rel.ring _ hi, ← rel.size] at hru; omega)] at hon
      rw [hon] at kont wf'
      have co3 := COut.trans (own1 := own) co1 (CNew.refl _ _) co2
      have cn3 := CNew.trans (own1 := own) co1 (CNew.refl _ _) cn2
      have hC2 : CardC CD CR CC CU H2 c _ own2 := ⟨_, h2, rel.post wf hi, wf'⟩
      obtain ⟨f1, f2, f3, f4⟩ := fin_new hC2 co3 ht' (.lst [.int (((m.ring r.toNat).used + 1 : Nat) : Int)])
      refine kont _ _ t' f1 f2 cn3 f3 f4 ?_
      rw [upd_same, rel.ring _ hi]
      rfl
/-! ### lend -/
theorem Rel.lend {m : M} {c : Sj50.Card} {b : Nat} (h : Rel m c) : Rel (m.post 4 ⟨b, 0, false⟩) { c with lent := { c.lent with posted := c.lent.posted ++ [⟨b, Sj50.SIZE, false⟩] }, at_ := c.at_.set b 5 } := by
  refine ⟨h.size, h.bufs, ?_, fun j hj => ?_, ?_, h.part, h.part4, h.out, h.many, h.late, h.turn, h.sent, h.since, h.come, h.drop, h.ticks⟩
  · show m.mine.set b false = (c.at_.set b 5).map (· == 0)
    rw [List.map_set, h.mine]
    rfl
  · show upd1 m.ring 4 _ j = c.ring j
    rw [upd1_ne (by omega)]
    exact h.ring j hj
  · have e : (m.post 4 ⟨b, 0, false⟩).ring 4 = { m.ring 4 with posted := (m.ring 4).posted ++ [⟨b, 0, false⟩] } := upd1_same (f := m.ring) (i := 4)
    rw [e, h.lent]
    unfold lentM
    simp only [List.map_append, List.map_cons, List.map_nil]
    rfl
theorem scOLend : FnScope ["card", "numbers"] ["card", "numbers"] (defScope sOLend) := ⟨rfl, rfl, rfl, by decide +kernel, rfl, by decide +kernel, by decide +kernel⟩
theorem ok_olend {f fP fD : Addr} {fd fdP fdD : FuncData} (F : Fun K "answer_lend" "answer_lend" sOLend f fd) (T : OTxt K mg CD CR CC CU) (S : STxt mg)
    (GP : FnOk P w K mg base CX0 3 fP fdP ["card", "ring", "descriptor"] (spPosted CD CR CC CU)) (bP : Binds K fdP ["card", "ring", "descriptor"] []) (gP : mg "answer_posted" = some (.ref fP)) (kP : PySem.W.keepIn K (.ref fP) = true)
    (MD : Mk K CD fD) (FD : Fun K "__init__" "Descriptor.__init__" sDesc fD fdD) (bD : Binds K fdD ["self", "buffer", "length", "last"] []) : FnOk P w K mg base CX0 4 f fd ["card", "numbers"] (spOn CD (CardC CD CR CC CU) 9) := by
  have GD : FnOk P w K mg base CX0 1 fD fdD ["self", "buffer", "length", "last"] (spDesc CD) := ok_desc FD T.C.DT
  refine F.ok scOLend (fun vs H Q E h => ?_) (fun cdv A outer s H vs Q E hr h => ?_)
  · obtain ⟨c, q, k, own, xs, kk, rfl, _⟩ := h
    rfl
  · obtain ⟨c, q, k, own, xs, kk, rfl, ⟨m, hc, rel, wf⟩, oq, hq, hk, hw, kont⟩ := h
    obtain ⟨b, rfl, rfl⟩ := callOf9 hk
    simp [rangesOf, within] at hw
    obtain ⟨L, h⟩ := id hc
    obtain ⟨tL, gL⟩ := S.gL
    have hmine := rel.mine_at wf hw
    have hr2 : Room 2 _ := hr.mono (by decide)
    have hon : Sj50.on k (.lend b) = if (!Sj50.isMine k b) = true then (k, Sj50.just (-4)) else if k.size ≤ k.lent.used then (k, Sj50.just (-5)) else
        ({ k with lent := { k.lent with posted := k.lent.posted ++ [⟨b.toNat, Sj50.SIZE, false⟩] }, at_ := k.at_.set b.toNat 5 }, Sj50.just ((k.lent.used : Nat) + 1)) := by
      unfold Sj50.on
      dsimp only
      rw [if_neg (by simp [Sj50.isIn]; omega)]
      rfl
    have wf' := wf_on wf (.lend b)
    have hru := wf.lent.used
    have eu : (m.ring 4).used = k.lent.used := by rw [rel.lent, lentM_used]
    refine ⟨_, pss_one (ps_ret (pe_call GP hr rfl gP kP bP .nil pass0 (pa_cons (pv 0) (pa_cons (pe_glob (v := .int 4) rfl gL ⟨_, rfl⟩) (pa_cons (pe_make MD GD hr2 rfl T.gD bD .nil pass0 (pa_cons (pe_ix ix_list (pv 1) pe_int (fun _ _ => rfl)) (pa_cons pe_int (pa_cons pe_int pa_nil)))) pa_nil))))), ?_⟩
    refine ⟨_, rfl, _, rfl, q, _, _, _, rfl, rfl, SqL.of hq, rfl, ?_⟩
    intro x dxx nx ndx nex
    have sx : Same H (upd (upd H dxx (.own x)) x (.ins CD dxx (dF ⟨b.toNat, 0, false⟩))) := fun y o e => (upd_ne (ne_of_none e nx)).trans ((upd_ne (ne_of_none e ndx)).trans e)
    refine ⟨x, dxx, ⟨b.toNat, 0, false⟩, ?_, upd_same, rfl, ?_⟩
    · show [V.ref x, V.int b, V.int 0, V.int 0] = [V.ref x, V.int ((b.toNat : Nat) : Int), V.int 0, V.int 0]
      rw [Int.toNat_of_nonneg hw.1]
    rw [upd_upd]
    have hC : CardC CD CR CC CU H c k own := ⟨m, hc, rel, wf⟩
    have hC1 := cardP.same hC sx
    have co1 : COut H (upd (upd H dxx (.own x)) x (.ins CD dxx (dF ⟨b.toNat, 0, false⟩))) own := fun y o e _ => sx _ _ e
    refine ⟨c, x, m, own, 4, ⟨b.toNat, 0, false⟩, Sj50.isMine k b, rfl, ⟨L, h.same sx⟩, rel.fit wf, (by decide), ⟨x, dxx, rfl, upd_same⟩, (by show b.toNat < 64; omega), hmine, fun em t' ht' => ?_, fun em c2 t' ht' => ?_, fun em c2 H2 own2 t' h2 co2 cn2 ht' => ?_⟩
    · rw [em, if_pos (by decide)] at hon
      rw [hon] at kont
      obtain ⟨f1, f2, f3, f4⟩ := fin_new hC1 co1 ht' (.lst [.int (-4)])
      exact kont _ _ t' f1 f2 (CNew.refl _ _) f3 f4 upd_same
    · rw [em, if_neg (by decide), if_pos (by rw [← eu, ← rel.size, c2]; exact Nat.le_refl _)] at hon
      rw [hon] at kont
      obtain ⟨f1, f2, f3, f4⟩ := fin_new hC1 co1 ht' (.lst [.int (-5)])
      exact kont _ _ t' f1 f2 (CNew.refl _ _) f3 f4 upd_same
    · rw [em, if_neg (by decide), if_neg (by rw [← eu, ← rel.size]; rw [← eu, ← rel.size] at hru; omega)] at hon
      rw [hon] at kont wf'
      have co3 := COut.trans (own1 := own) co1 (CNew.refl _ _) co2
      have cn3 := CNew.trans (own1 := own) co1 (CNew.refl _ _) cn2
      have hC2 : CardC CD CR CC CU H2 c _ own2 := ⟨_, h2, rel.lend, wf'⟩
      obtain ⟨f1, f2, f3, f4⟩ := fin_new hC2 co3 ht' (.lst [.int (((m.ring 4).used + 1 : Nat) : Int)])
      refine kont _ _ t' f1 f2 cn3 f3 f4 ?_
      rw [upd_same, eu]
      rfl
end
end Rg

namespace Rg
open PySem PySem.Spec PyProof.Rows L2
theorem backs_map : ∀ {ds : List Sj50.Desc} {a : List Nat}, backs ds (a.map (· == 0)) = (ds.foldl (fun a d => a.set d.buf 0) a).map (· == 0)
  | [], a => rfl
  | d :: ds, a => by
    show backs ds ((a.map (· == 0)).set d.buf true) = _
    have : (a.map (· == 0)).set d.buf true = (a.set d.buf 0).map (· == 0) := by
      rw [List.map_set]
      rfl
    rw [this]
    exact backs_map
theorem Rel.reap {m : M} {c : Sj50.Card} {i : Nat} (h : Rel m c) (w : WF c) (hi : i < 4) : Rel (m.reap i) { c with rings := c.rings.set i { c.ring i with done := [] }, at_ := (c.ring i).done.foldl (fun a d => a.set d.buf 0) c.at_ } := by
  refine ⟨h.size, h.bufs, ?_, fun j hj => ?_, ?_, h.part, h.part4, h.out, h.many, h.late, h.turn, h.sent, h.since, h.come, h.drop, h.ticks⟩
  · show backs (m.ring i).done m.mine = _
    rw [h.mine, h.ring i hi]
    exact backs_map
  · show upd1 m.ring i _ j = (c.rings.set i _).getD j Sj50.empty
    rw [getD_set (by rw [w.rings]; exact hi)]
    unfold upd1
    split
    · rw [h.ring i hi]
    · exact h.ring j hj
  · show upd1 m.ring i _ 4 = lentM c.lent
    rw [upd1_ne (by omega)]
    exact h.lent
section
variable {P : Program} {w : World} {K : PySem.W.Frag} {mg : Str → Option Value} {base : Heap} {CD CR CC CU : Addr}
abbrev sToldOf : Stmt := top 27
/-- told_of(descriptor) -/
def spToldOf (CD : Addr) : Sp := fun vs H Q _ => ∃ (x : Addr) (d : Sj50.Desc), vs = [.ref x] ∧ DescV CD H (.ref x) d ∧ ∀ t, H t = none → Q (.ref t) (upd H t (.lst ((Sj50.told d).map V.int)))
theorem scToldOf : FnScope ["descriptor"] ["descriptor"] (defScope sToldOf) := ⟨rfl, rfl, rfl, by decide +kernel, rfl, by decide +kernel, by decide +kernel⟩
theorem ok_toldof {f : Addr} {fd : FuncData} (F : Fun K "told_of" "told_of" sToldOf f fd) (T : OTxt K mg CD CR CC CU) : FnOk P w K mg base CX0 1 f fd ["descriptor"] (spToldOf CD) := by
  refine F.ok scToldOf (fun vs H Q E h => ?_) (fun cdv A outer s H vs Q E hr h => ?_)
  · obtain ⟨x, d, rfl, _⟩ := h
    rfl
  · obtain ⟨x, d, rfl, ⟨x', dxx, ex, hx⟩, k⟩ := h
    obtain rfl : x = x' := by injection ex
    refine ⟨_, pss_one (ps_ret (pe_lst (pa_cons (pe_fld (pv 0) rfl) (pa_cons (pe_fld (pv 0) rfl) (pa_cons (pe_fld (pv 0) rfl) pa_nil))))), ?_⟩
    exact ⟨_, rfl, x, CD, dxx, _, _, rfl, hx, T.C.DT.cl, T.C.DT.nB, dF_buffer d, _, rfl, x, CD, dxx, _, _, rfl, hx, T.C.DT.cl, T.C.DT.nL, dF_length d, _, rfl, x, CD, dxx, _, _, rfl, hx, T.C.DT.cl, T.C.DT.nT, dF_last d, (by show 3 ≤ sizeLine; decide), fun p hp => k p hp⟩
theorem scOReap : FnScope ["card", "numbers", "taken", "told", "descriptor"] ["card", "numbers"] (defScope sOReap) := ⟨rfl, rfl, rfl, by decide +kernel, rfl, by decide +kernel, by decide +kernel⟩
theorem flat_more {ds : List Sj50.Desc} {i : Nat} {d : Sj50.Desc} (h : ds[i]? = some d) : (ds.take (i + 1)).flatMap Sj50.told = (ds.take i).flatMap Sj50.told ++ Sj50.told d := by
  rw [take_more h, List.flatMap_append]
  simp
theorem flat_len {ds : List Sj50.Desc} : (ds.flatMap Sj50.told).length = 3 * ds.length := by
  induction ds with
  | nil => rfl
  | cons d ds ih =>
    rw [List.flatMap_cons, List.length_append, ih, List.length_cons]
    show 3 + _ = _
    omega
theorem ok_oreap {f fR fO : Addr} {fd fdR fdO : FuncData} (F : Fun K "answer_reap" "answer_reap" sOReap f fd) (T : OTxt K mg CD CR CC CU)
    (GR : FnOk P w K mg base CX0 2 fR fdR ["self", "ring"] (spReap CD CR CC CU)) (bR : Binds K fdR ["self", "ring"] []) (mR : Meth K CC "reap" fR)
    (FO : Fun K "told_of" "told_of" sToldOf fO fdO) (bO : Binds K fdO ["descriptor"] []) (gO : mg "told_of" = some (.ref fO)) : FnOk P w K mg base CX0 3 f fd ["card", "numbers"] (spOn CD (CardC CD CR CC CU) 7) := by
  have GO : FnOk P w K mg base CX0 1 fO fdO ["descriptor"] (spToldOf CD) := ok_toldof FO T
  refine F.ok scOReap (fun vs H Q E h => ?_) (fun cdv A outer s H vs Q E hr h => ?_)
  · obtain ⟨c, q, k, own, xs, kk, rfl, _⟩ := h
    rfl
  · obtain ⟨c, q, k, own, xs, kk, rfl, ⟨m, hc, rel, wf⟩, oq, hq, hk, hw, kont⟩ := h
    obtain ⟨r, rfl, rfl⟩ := callOf7 hk
    simp [rangesOf, within] at hw
    obtain ⟨L, h⟩ := id hc
    have hi : r.toNat < 4 := by omega
    have hi5 : r.toNat < 5 := by omega
    have er : r = ((r.toNat : Nat) : Int) := by omega
    have hon : Sj50.on k (.reap r) = ({ k with rings := k.rings.set r.toNat { k.ring r.toNat with done := [] }, at_ := (k.ring r.toNat).done.foldl (fun a d => a.set d.buf 0) k.at_ }, ⟨((k.ring r.toNat).done.length : Nat), (k.ring r.toNat).done.flatMap Sj50.told⟩) := by
      unfold Sj50.on
      dsimp only
      rw [if_neg (by simp [Sj50.isIn]; omega)]
      rfl
    have wf' := wf_on wf (.reap r)
    rw [hon] at kont wf'
    have hdl : (m.ring r.toNat).done.length ≤ 64 := by
      have := (rel.fit wf).used _ hi5
      unfold Sj50.Ring.used at this
      omega
    refine ⟨_, pss_cons (ps_set (i := 2) scOReap.nd rfl (Or.inl rfl) (pe_meth (pv 0) T.C.cl mR GR hr bR .nil pass0 (pa_cons (pe_ix ix_list (pv 1) pe_int (fun _ _ => rfl)) pa_nil)))
      (pss_cons (ps_set (i := 3) scOReap.nd rfl (Or.inl rfl) (pe_lst (pa_cons (pe_callB call_len_seq (by rfl) T.C.len PySem.boot_len (pa_cons (pv 2) pa_nil)) pa_nil)))
      (pss_cons (ps_for PassesOwn.never rfl (pi_list (pv 2)) (pg_name (i := 4) scOReap.nd rfl (Or.inl rfl))
        (pss_one (ps_expr (pe_bm PySem.F.plainAttrs_list PySem.F.slot_list_extend PySem.F.type_list_extend mt_extend (pv 3) (pa_cons (pe_call GO (hr.mono (by decide)) rfl gO FO.kp bO .nil pass0 (pa_cons (pv 4) pa_nil)) pa_nil)))))
      (pss_one (ps_ret (pv 3))))), ?_⟩
    refine ⟨_, rfl, c, L.dx, _, rfl, h.hc, cF_no (by decide +kernel), _, rfl, q, _, _, _, rfl, rfl, SqL.of hq, rfl, c, m, own, r.toNat, (by rw [← er]; rfl), hc, hi5, fun d hd => by rw [(rel.fit wf).mine]; exact ((rel.fit wf).desc _ hi5 d (.inr (.inr hd))).1, fun H1 own1 tk ds h1 co1 cn1 otk htk hds => ?_⟩
    have hlen := Paired.len hds
    refine ⟨_, rfl, tk, _, rfl, .inl (SqL.of htk), (by show 1 ≤ sizeLine; decide), fun tl htl => ?_⟩
    have hC1 : CardC CD CR CC CU H1 c _ own1 := ⟨_, h1, rel.reap wf hi, wf'⟩
    obtain ⟨f1, f2, f3, f4⟩ := fin_new hC1 co1 htl (.lst [.int ((ds.length : Nat) : Int)])
    have s1 := Same.upd (o := .lst [.int ((ds.length : Nat) : Int)]) htl
    have ntk : tk ≠ tl := ne_of_none htk htl
    refine ⟨_, rfl, tk, rfl, ⟨_, SqL.of (s1 _ _ htk)⟩, for_list (K := K) (a := tk) (xs := ds) (fun n σ H' => ∃ v : Option V, σ = [some (.ref c), some (.ref q), some (.ref tk), some (.ref tl), v] ∧
        CardC CD CR CC CU H' c { k with rings := k.rings.set r.toNat { k.ring r.toNat with done := [] }, at_ := (k.ring r.toNat).done.foldl (fun a d => a.set d.buf 0) k.at_ } own1 ∧ COut H H' own ∧ H' tk = some (.lst ds) ∧ Descs CD H' ds (m.ring r.toNat).done ∧
        H' tl = some (.lst (.int ((ds.length : Nat) : Int) :: (((m.ring r.toNat).done.take n).flatMap Sj50.told).map V.int)))
      ⟨none, rfl, f1, fin_newS hC1 co1 htl _, s1 _ _ htk, Descs.out (F := []) (fun b z => nomatch z) (fun b o e _ => s1 _ _ e) hds, upd_same⟩ (fun n σ H' _ ⟨_, _, _, _, z, _⟩ => SqL.of z) ?_ ?_⟩
    · rintro n y σ H' hn ⟨v, rfl, hC, co, hk2, hd2, hT⟩
      obtain ⟨d, hd, x, dxx, rfl, hx⟩ := Paired.get' hd2 hn
      refine ⟨_, rfl, .inl ⟨rfl, _, SqL.of hT⟩, _, rfl, x, d, rfl, ⟨x, dxx, rfl, hx⟩, fun p hp => ?_⟩
      have sp := Same.upd (o := .lst ((Sj50.told d).map V.int)) hp
      refine ⟨tl, p, _, _, rfl, rfl, sp _ _ hT, upd_same, ?_, ?_⟩
      · have h1 : ((m.ring r.toNat).done.take n).length ≤ 64 := by rw [List.length_take]; omega
        exact Nat.le_trans (show _ ≤ 1000 by simp only [List.length_cons, List.length_map, flat_len, List.length_nil]; show _ + 1 + 3 ≤ 1000; omega) (by decide)
      have hC2 := cardP.same hC sp
      have otl : own1 tl = none := f3
      have nT : ∀ {b o}, H b = some o → own b = none → b ≠ tl := fun {b o} e z => f4 b o e z
      refine ⟨some (.ref x), rfl, cardP.upd hC2 otl (sp _ _ hT) (fun _ _ z => nomatch z), fun b o e z => (upd_ne (nT e z)).trans (sp _ _ (co b o e z)), (upd_ne ntk).trans (sp _ _ hk2), ?_, ?_⟩
      · refine Descs.out (F := [tl]) (fun b z dx fs e => ?_) (fun b o e z => (upd_ne fun y => z (List.mem_singleton.mpr y)).trans e) (Descs.out (F := []) (fun b z => nomatch z) (fun b o e _ => sp _ _ e) hd2)
        rw [List.mem_singleton.mp z] at e
        exact nomatch (Option.some.inj ((sp _ _ hT).symm.trans e))
      · rw [upd_same, flat_more hd, List.map_append]
        rfl
    · rintro σ H' ⟨v, rfl, hC, co, hk2, hd2, hT⟩
      rw [hlen, List.take_length] at hT
      refine ⟨_, rfl, kont _ _ tl hC co.weak cn1 f3 f4 ?_⟩
      rw [hT, rel.ring _ hi]
      rfl
end
end Rg

namespace Rg
open PySem PySem.Spec PyProof.Rows L2
abbrev sCTakeL : Stmt := inClass (top 16) 4
abbrev sYes : Stmt := top 26
abbrev sOTake : Stmt := top 38
abbrev sOTick : Stmt := top 39
abbrev sOCause : Stmt := top 40
abbrev sOState : Stmt := top 41
abbrev sOCounts : Stmt := top 42
section
variable {P : Program} {w : World} {K : PySem.W.Frag} {mg : Str → Option Value} {base : Heap} {CD CR CC CU : Addr}
/-! ### yes_or_no -/
def spYes : Sp := fun vs H Q _ => ∃ b : Bool, vs = [.bl b] ∧ Q (.int (Sj50.bit b)) H
theorem scYes : FnScope ["truth"] ["truth"] (defScope sYes) := ⟨rfl, rfl, rfl, by decide +kernel, rfl, by decide +kernel, by decide +kernel⟩
theorem ok_yes {f : Addr} {fd : FuncData} (F : Fun K "yes_or_no" "yes_or_no" sYes f fd) : FnOk P w K mg base CX0 1 f fd ["truth"] spYes := by
  refine F.ok scYes (fun vs H Q E h => ?_) (fun cdv A outer s H vs Q E hr h => ?_)
  · obtain ⟨b, rfl, _⟩ := h
    rfl
  · obtain ⟨b, rfl, k⟩ := h
    refine ⟨_, pss_one (ps_ret (pe_ifExp (pt_val (pv 0)) pe_int pe_int)), ?_⟩
    refine ⟨_, rfl, _, rfl, ?_⟩
    cases b with
    | true => exact iteT k
    | false => exact iteF k
/-! ### take -/
def M.takeL (m : M) (d : Sj50.Desc) (l : List Sj50.Desc) : M := { m with ring := upd1 m.ring 4 { m.ring 4 with done := l }, mine := m.mine.set d.buf true }
/-- card.take_lent() -/
def spTakeL (CD CR CC CU : Addr) : Sp := fun vs H Q _ => ∃ (c : Addr) (m : M) (own : Owns) (d : Sj50.Desc) (l : List Sj50.Desc), vs = [.ref c] ∧ CardAt CD CR CC CU H c m own ∧ (m.ring 4).done = d :: l ∧ d.buf < m.mine.length ∧
  ∀ H' own' x, CardAt CD CR CC CU H' c (m.takeL d l) own' → COut H H' own → CNew H own own' → DescV CD H' (.ref x) d → Q (.ref x) H'
theorem scCTakeL : FnScope ["self", "descriptor"] ["self"] (defScope sCTakeL) := ⟨rfl, rfl, rfl, by decide +kernel, rfl, by decide +kernel, by decide +kernel⟩
theorem ok_takeL {f fT : Addr} {fd fdT : FuncData} (F : Fun K "take_lent" "Card.take_lent" sCTakeL f fd) (T : CTxt K mg CD CR CC CU) (S : STxt mg)
    (FT : Fun K "take_first_done" "Ring.take_first_done" sRTakeF fT fdT) (bT : Binds K fdT ["self"] []) (mT : Meth K CR "take_first_done" fT) : FnOk P w K mg base CX0 2 f fd ["self"] (spTakeL CD CR CC CU) := by
  have GT : FnOk P w K mg base CX0 1 fT fdT ["self"] (spTakeF CD CR) := ok_takeF FT T.R
  refine F.ok scCTakeL (fun vs H Q E h => ?_) (fun cdv A outer s H vs Q E hr h => ?_)
  · obtain ⟨c, m, own, d, l, rfl, _⟩ := h
    rfl
  · obtain ⟨c, m, own, d, l, rfl, ⟨L, h⟩, es, hb, k⟩ := h
    obtain ⟨tL, gL⟩ := S.gL
    refine ⟨_, pss_cons (ps_set (i := 1) scCTakeL.nd rfl (Or.inl rfl) (pe_meth0 (pe_ix ix_list (pe_fld (pv 0) rfl) (pe_glob (v := .int 4) rfl gL ⟨_, rfl⟩) (fun _ _ => rfl)) T.R.cl mT GT hr bT .nil pass0))
      (pss_cons (ps_asg pe_bl (pg_sub (pe_fld (pv 0) rfl) (pe_fld (pv 1) rfl) set_list)) (pss_one (ps_ret (pv 1)))), ?_⟩
    have R := h.hr 4 (by decide)
    obtain ⟨rdx, rp, rs, rd, rf, _, _, _, _, _, ha, _⟩ := id R
    refine ⟨_, rfl, c, CC, L.dx, _, _, rfl, h.hc, T.cl, T.na _ (by decide +kernel), lk_zip (i := 3) (by decide +kernel) rfl, L.rl, _, _, _, rfl, rfl, SqL.of h.hrl, atI_nat (j := 4) (range5 (i := 4) (by decide)), L.ra 4, rdx, _, rfl, ha, noM (by decide +kernel), L.ra 4, _, _, _, _, d, l, rfl, R, es, fun H1 F1 v R1 o1 n1 hv => ?_⟩
    obtain ⟨h1, co1, cn1⟩ := h.ring T.R.ne (by decide) R1 o1 n1
    rw [upd1_self] at h1
    obtain ⟨x, dxx, rfl, hx⟩ := hv
    refine ⟨_, rfl, c, CC, L.dx, _, _, rfl, h1.hc, T.cl, T.na _ (by decide +kernel), lk_zip (i := 2) (by decide +kernel) rfl, _, rfl, x, CD, dxx, _, _, rfl, hx, T.DT.cl, T.DT.nB, dF_buffer d, L.ml, _, _, d.buf, rfl, rfl, h1.hml, ixN_nat (by rw [List.length_map]; exact hb), ?_⟩
    rw [← List.map_set]
    have h2 := h1.mineU (l := m.mine.set d.buf true)
    have co2 := h1.outU (o := .lst ((m.mine.set d.buf true).map V.bl)) h1.oml
    exact ⟨_, rfl, k _ _ x ⟨_, h2⟩ (COut.trans co1 cn1 co2) cn1 ⟨x, dxx, rfl, co2 _ _ hx (h1.desc_own hx)⟩⟩
theorem Rel.takeL {m : M} {c : Sj50.Card} {d : Sj50.Desc} {l : List Sj50.Desc} (h : Rel m c) : Rel (m.takeL d l) { c with lent := { c.lent with done := l }, at_ := c.at_.set d.buf 0 } := by
  refine ⟨h.size, h.bufs, ?_, fun j hj => ?_, ?_, h.part, h.part4, h.out, h.many, h.late, h.turn, h.sent, h.since, h.come, h.drop, h.ticks⟩
  · show m.mine.set d.buf true = (c.at_.set d.buf 0).map (· == 0)
    rw [List.map_set, h.mine]
    rfl
  · show upd1 m.ring 4 _ j = c.ring j
    rw [upd1_ne (by omega)]
    exact h.ring j hj
  · have e : (m.takeL d l).ring 4 = { m.ring 4 with done := l } := upd1_same (f := m.ring) (i := 4)
    rw [e, h.lent]
    rfl
theorem scOTake : FnScope ["card", "numbers"] ["card", "numbers"] (defScope sOTake) := ⟨rfl, rfl, rfl, by decide +kernel, rfl, by decide +kernel, by decide +kernel⟩
theorem ok_otake {f fT fO : Addr} {fd fdT fdO : FuncData} (F : Fun K "answer_take" "answer_take" sOTake f fd) (T : OTxt K mg CD CR CC CU) (S : STxt mg)
    (GT : FnOk P w K mg base CX0 2 fT fdT ["self"] (spTakeL CD CR CC CU)) (bT : Binds K fdT ["self"] []) (mT : Meth K CC "take_lent" fT)
    (FO : Fun K "told_of" "told_of" sToldOf fO fdO) (bO : Binds K fdO ["descriptor"] []) (gO : mg "told_of" = some (.ref fO)) : FnOk P w K mg base CX0 3 f fd ["card", "numbers"] (spOn CD (CardC CD CR CC CU) 11) := by
  have GO : FnOk P w K mg base CX0 1 fO fdO ["descriptor"] (spToldOf CD) := ok_toldof FO T
  refine F.ok scOTake (fun vs H Q E h => ?_) (fun cdv A outer s H vs Q E hr h => ?_)
  · obtain ⟨c, q, k, own, xs, kk, rfl, _⟩ := h
    rfl
  · obtain ⟨c, q, k, own, xs, kk, rfl, ⟨m, hc, rel, wf⟩, oq, hq, hk, hw, kont⟩ := h
    obtain ⟨rfl, rfl⟩ := callOf11 hk
    obtain ⟨L, h⟩ := id hc
    obtain ⟨tL, gL⟩ := S.gL
    obtain ⟨tN, gN⟩ := T.gNT
    have wf' := wf_on wf .take
    have hC : CardC CD CR CC CU H c k own := ⟨m, hc, rel, wf⟩
    refine ⟨_, pss_cons (ps_if (pt_cmpR op_eq (pe_callB call_len_seq (by rfl) T.C.len PySem.boot_len (pa_cons (pe_fld (pe_ix ix_list (pe_fld (pv 0) rfl) (pe_glob (v := .int 4) rfl gL ⟨_, rfl⟩) (fun _ _ => rfl)) rfl) pa_nil)) pe_int (nomark _)) (pss_one (ps_ret (pe_lst (pa_cons (pe_glob (v := .int (-6)) rfl gN ⟨_, rfl⟩) pa_nil)))) pss_nil)
      (pss_one (ps_ret (pe_op op_cat (pe_lst (pa_cons pe_int pa_nil)) (pe_call GO (hr.mono (by decide)) rfl gO FO.kp bO .nil pass0 (pa_cons (pe_meth0 (pv 0) T.C.cl mT GT hr bT .nil pass0) pa_nil))))), ?_⟩
    obtain ⟨rdx, rp, rs, rd, rf, _, _, ds, _, _, ha, _, _, hd, _, _, _, hdd⟩ := id (h.hr 4 (by decide))
    have hl := Paired.len hdd
    have edn : (m.ring 4).done = k.lent.done := by rw [rel.lent]; rfl
    refine ⟨_, rfl, c, CC, L.dx, _, _, rfl, h.hc, T.C.cl, T.C.na _ (by decide +kernel), lk_zip (i := 3) (by decide +kernel) rfl, L.rl, _, _, _, rfl, rfl, SqL.of h.hrl, atI_nat (j := 4) (range5 (i := 4) (by decide)), L.ra 4, CR, rdx, _, _, rfl, ha, T.C.R.cl, T.C.R.nD, rF_done .., rd, _, rfl, .inl (SqL.of hd), rfl, _, rfl, ?_⟩
    cases eo : k.lent.done with
    | nil =>
      rw [decide_eq_true (show V.int (ds.length : Int) = V.int 0 by rw [hl, edn, eo]; rfl)]
      have eon : Sj50.on k .take = (k, Sj50.just (-6)) := by
        unfold Sj50.on
        dsimp only
        rw [eo]
      rw [eon] at kont
      refine iteT ⟨(by show 1 ≤ sizeLine; decide), fun t ht => ?_⟩
      obtain ⟨f1, f2, f3, f4⟩ := fin_new (own := own) hC (COut.refl _ _) ht (.lst [.int (-6)])
      exact kont _ _ t f1 f2 (CNew.refl _ _) f3 f4 upd_same
    | cons d l =>
      rw [decide_eq_false (show ¬ V.int (ds.length : Int) = V.int 0 from fun e => by injection e with e; rw [hl, edn, eo] at e; simp at e; omega)]
      have eon : Sj50.on k .take = ({ k with lent := { k.lent with done := l }, at_ := k.at_.set d.buf 0 }, ⟨0, Sj50.told d⟩) := by
        unfold Sj50.on
        dsimp only
        rw [eo]
      rw [eon] at kont wf'
      have es : (m.ring 4).done = d :: l := edn.trans eo
      refine iteF ⟨(by show 1 ≤ sizeLine; decide), fun p1 hp1 => ?_⟩
      have s1 := Same.upd (o := .lst [V.int 0]) hp1
      have h1 := h.same s1
      have op1 : own p1 = none := h.unowned hp1
      refine ⟨_, rfl, c, L.dx, _, rfl, h1.hc, cF_no (by decide +kernel), c, m, own, d, l, rfl, ⟨L, h1⟩, es, by rw [(rel.fit wf).mine]; exact ((rel.fit wf).desc 4 (by decide) d (.inr (.inr (by rw [es]; exact List.mem_cons_self ..)))).1, fun H2 own2 x h2 co2 cn2 hx => ?_⟩
      refine ⟨x, d, rfl, hx, fun t1 ht1 => ?_⟩
      have hp2 := co2 _ _ upd_same op1
      have co3 : COut H H2 own := COut.trans (own1 := own) (fun b o e _ => s1 _ _ e) (CNew.refl _ _) co2
      have cn3 : CNew H own own2 := CNew.trans (own1 := own) (fun b o e _ => s1 _ _ e) (CNew.refl _ _) cn2
      have hC2 : CardC CD CR CC CU H2 c _ own2 := ⟨_, h2, rel.takeL, wf'⟩
      have s3 := Same.upd (o := .lst ((Sj50.told d).map V.int)) ht1
      refine ⟨p1, t1, _, _, rfl, rfl, s3 _ _ hp2, upd_same, (by show 1 + 3 ≤ sizeLine; decide), fun t ht => ?_⟩
      obtain ⟨f1, f2, f3, f4⟩ := fin_new (cardP.same hC2 s3) (fun b o e z => s3 _ _ (co3 b o e z)) ht (.lst ([.int 0] ++ (Sj50.told d).map V.int))
      exact kont _ _ t f1 f2 cn3 f3 f4 upd_same
/-! ### tick -/
theorem cause_rel {m : M} {c : Sj50.Card} (h : Rel m c) (w : WF c) : (decide (m.many ≤ m.since) || decide (m.late ≤ m.ticks)) = c.cause := by
  rw [h.many, h.since, h.late, h.ticks]
  exact w.cz.cause.symm
theorem scOTick : FnScope ["card", "numbers"] ["card", "numbers"] (defScope sOTick) := ⟨rfl, rfl, rfl, by decide +kernel, rfl, by decide +kernel, by decide +kernel⟩
theorem ok_otick {f fP fG fY : Addr} {fd fdP fdG fdY : FuncData} (F : Fun K "answer_tick" "answer_tick" sOTick f fd) (T : OTxt K mg CD CR CC CU)
    (FP : Fun K "pass_ticks" "Cause.pass_ticks" sUTicks fP fdP) (bP : Binds K fdP ["self", "ticks"] []) (mP : Meth K CU "pass_ticks" fP)
    (FG : Fun K "is_given" "Cause.is_given" sUGiven fG fdG) (bG : Binds K fdG ["self"] []) (mG : Meth K CU "is_given" fG)
    (FY : Fun K "yes_or_no" "yes_or_no" sYes fY fdY) (bY : Binds K fdY ["truth"] []) (gY : mg "yes_or_no" = some (.ref fY)) : FnOk P w K mg base CX0 2 f fd ["card", "numbers"] (spOn CD (CardC CD CR CC CU) 12) := by
  have GP : FnOk P w K mg base CX0 1 fP fdP ["self", "ticks"] (spUTicks CU) := ok_uticks FP T.C.U
  have GG : FnOk P w K mg base CX0 1 fG fdG ["self"] (spUGiven CU) := ok_ugiven FG T.C.U
  have GY : FnOk P w K mg base CX0 1 fY fdY ["truth"] spYes := ok_yes FY
  refine F.ok scOTick (fun vs H Q E h => ?_) (fun cdv A outer s H vs Q E hr h => ?_)
  · obtain ⟨c, q, k, own, xs, kk, rfl, _⟩ := h
    rfl
  · obtain ⟨c, q, k, own, xs, kk, rfl, ⟨m, hc, rel, wf⟩, oq, hq, hk, hw, kont⟩ := h
    obtain ⟨n, rfl, rfl⟩ := callOf12 hk
    simp [rangesOf, within] at hw
    obtain ⟨L, h⟩ := id hc
    have en : n = ((n.toNat : Nat) : Int) := by omega
    have eon : Sj50.on k (.tick n) = (k.tick n.toNat, Sj50.just (Sj50.bit (k.tick n.toNat).cause)) := by
      unfold Sj50.on
      dsimp only
      rw [if_neg (by simp [Sj50.isIn]; omega)]
    have wf' := wf_on wf (.tick n)
    rw [eon] at kont wf'
    refine ⟨_, pss_cons (ps_expr (pe_meth (pe_fld (pv 0) rfl) T.C.U.cl mP GP hr bP .nil pass0 (pa_cons (pe_ix ix_list (pv 1) pe_int (fun _ _ => rfl)) pa_nil)))
      (pss_one (ps_ret (pe_lst (pa_cons (pe_call GY hr rfl gY FY.kp bY .nil pass0 (pa_cons (pe_meth0 (pe_fld (pv 0) rfl) T.C.U.cl mG GG hr bG .nil pass0) pa_nil)) pa_nil)))), ?_⟩
    -- what follows the ticks
    have fin : ∀ (H1 : Hp) (m1 : M), CardL CD CR CC CU H1 c m1 own L → Rel m1 (k.tick n.toNat) → COut H H1 own → ∀ t, H1 t = none → Q (.ref t) (upd H1 t (.lst [.int (Sj50.bit (decide (m1.many ≤ m1.since) || decide (m1.late ≤ m1.ticks)))])) := fun H1 m1 h1 rel1 co1 t ht => by
      obtain ⟨f1, f2, f3, f4⟩ := fin_new (⟨m1, ⟨L, h1⟩, rel1, wf'⟩ : CardC CD CR CC CU H1 c (k.tick n.toNat) own) co1 ht (.lst [.int (Sj50.bit (decide (m1.many ≤ m1.since) || decide (m1.late ≤ m1.ticks)))])
      refine kont _ _ t f1 f2 (CNew.refl _ _) f3 f4 ?_
      rw [upd_same, cause_rel rel1 wf']
      rfl
    refine ⟨_, rfl, c, CC, L.dx, _, _, rfl, h.hc, T.C.cl, T.C.na _ (by decide +kernel), lk_zip (i := 0) (by decide +kernel) rfl, L.ca, L.cdx, _, rfl, h.hca, uG_no _ _ _ _ (by decide +kernel), _, rfl, q, _, _, _, rfl, rfl, SqL.of hq, rfl, L.ca, L.cdx, _, _, _, _, n.toNat, (by rw [← en]; rfl), h.hca, fun e0 => ?_, fun e0 => ?_⟩
    · have rel1 : Rel m (k.tick n.toNat) := by
        unfold Sj50.Card.tick
        rw [if_pos (by rw [← rel.since]; exact e0)]
        exact rel
      exact ⟨_, rfl, c, CC, L.dx, _, _, rfl, h.hc, T.C.cl, T.C.na _ (by decide +kernel), lk_zip (i := 0) (by decide +kernel) rfl, L.ca, L.cdx, _, rfl, h.hca, uG_no _ _ _ _ (by decide +kernel), L.ca, L.cdx, _, _, _, _, rfl, h.hca, _, rfl, (by show 1 ≤ sizeLine; decide), fun t ht => fin H m h rel1 (COut.refl _ _) t ht⟩
    · have h1 := h.causeU (m' := { m with ticks := m.ticks + n.toNat }) T.C.U.ne rfl rfl rfl rfl rfl rfl (fun _ _ _ _ _ => rfl)
      have rel1 : Rel { m with ticks := m.ticks + n.toNat } (k.tick n.toNat) := by
        unfold Sj50.Card.tick
        rw [if_neg (by rw [← rel.since]; exact e0)]
        exact ⟨rel.size, rel.bufs, rel.mine, rel.ring, rel.lent, rel.part, rel.part4, rel.out, rel.many, rel.late, rel.turn, rel.sent, rel.since, rel.come, rel.drop, by show m.ticks + n.toNat = k.since + n.toNat; rw [rel.ticks]⟩
      exact ⟨_, rfl, c, CC, L.dx, _, _, rfl, h1.hc, T.C.cl, T.C.na _ (by decide +kernel), lk_zip (i := 0) (by decide +kernel) rfl, L.ca, L.cdx, _, rfl, h1.hca, uG_no _ _ _ _ (by decide +kernel), L.ca, L.cdx, _, _, _, _, rfl, h1.hca, _, rfl, (by show 1 ≤ sizeLine; decide), fun t ht => fin _ _ h1 rel1 (h.outU h.oca) t ht⟩
/-! ### cause -/
theorem scOCause : FnScope ["card", "numbers", "told"] ["card", "numbers"] (defScope sOCause) := ⟨rfl, rfl, rfl, by decide +kernel, rfl, by decide +kernel, by decide +kernel⟩
theorem ok_ocause {f fA fG fY : Addr} {fd fdA fdG fdY : FuncData} (F : Fun K "answer_cause" "answer_cause" sOCause f fd) (T : OTxt K mg CD CR CC CU)
    (FA : Fun K "begin_anew" "Cause.begin_anew" sUAnew fA fdA) (bA : Binds K fdA ["self"] []) (mA : Meth K CU "begin_anew" fA)
    (FG : Fun K "is_given" "Cause.is_given" sUGiven fG fdG) (bG : Binds K fdG ["self"] []) (mG : Meth K CU "is_given" fG)
    (FY : Fun K "yes_or_no" "yes_or_no" sYes fY fdY) (bY : Binds K fdY ["truth"] []) (gY : mg "yes_or_no" = some (.ref fY)) : FnOk P w K mg base CX0 2 f fd ["card", "numbers"] (spOn CD (CardC CD CR CC CU) 13) := by
  have GA : FnOk P w K mg base CX0 1 fA fdA ["self"] (spUAnew CU) := ok_uanew FA T.C.U
  have GG : FnOk P w K mg base CX0 1 fG fdG ["self"] (spUGiven CU) := ok_ugiven FG T.C.U
  have GY : FnOk P w K mg base CX0 1 fY fdY ["truth"] spYes := ok_yes FY
  refine F.ok scOCause (fun vs H Q E h => ?_) (fun cdv A outer s H vs Q E hr h => ?_)
  · obtain ⟨c, q, k, own, xs, kk, rfl, _⟩ := h
    rfl
  · obtain ⟨c, q, k, own, xs, kk, rfl, ⟨m, hc, rel, wf⟩, oq, hq, hk, hw, kont⟩ := h
    obtain ⟨rfl, rfl⟩ := callOf13 hk
    obtain ⟨L, h⟩ := id hc
    have eon : Sj50.on k .cause = ({ k with cause := false, since := 0, waiting := 0 }, ⟨Sj50.bit k.cause, [Sj50.nat k.waiting]⟩) := rfl
    have wf' := wf_on wf .cause
    rw [eon] at kont wf'
    refine ⟨_, pss_cons (ps_set (i := 2) scOCause.nd rfl (Or.inl rfl) (pe_lst (pa_cons (pe_call GY hr rfl gY FY.kp bY .nil pass0 (pa_cons (pe_meth0 (pe_fld (pv 0) rfl) T.C.U.cl mG GG hr bG .nil pass0) pa_nil)) (pa_cons (pe_fld (pe_fld (pv 0) rfl) rfl) pa_nil))))
      (pss_cons (ps_expr (pe_meth0 (pe_fld (pv 0) rfl) T.C.U.cl mA GA hr bA .nil pass0)) (pss_one (ps_ret (pv 2)))), ?_⟩
    refine ⟨_, rfl, c, CC, L.dx, _, _, rfl, h.hc, T.C.cl, T.C.na _ (by decide +kernel), lk_zip (i := 0) (by decide +kernel) rfl, L.ca, L.cdx, _, rfl, h.hca, uG_no _ _ _ _ (by decide +kernel), L.ca, L.cdx, _, _, _, _, rfl, h.hca, _, rfl,
      _, rfl, c, CC, L.dx, _, _, rfl, h.hc, T.C.cl, T.C.na _ (by decide +kernel), lk_zip (i := 0) (by decide +kernel) rfl, L.ca, CU, L.cdx, _, _, rfl, h.hca, T.C.U.cl, T.C.U.na _ (by decide +kernel), uG_since .., (by show 2 ≤ sizeLine; decide), fun t ht => ?_⟩
    obtain ⟨f1, f2, f3, f4⟩ := fin_new (own := own) (⟨m, hc, rel, wf⟩ : CardC CD CR CC CU H c k own) (COut.refl _ _) ht (.lst [.int (Sj50.bit (decide (m.many ≤ m.since) || decide (m.late ≤ m.ticks))), .int (m.since : Int)])
    have s1 := Same.upd (o := .lst [.int (Sj50.bit (decide (m.many ≤ m.since) || decide (m.late ≤ m.ticks))), .int (m.since : Int)]) ht
    have h1 := h.same s1
    refine ⟨_, rfl, c, CC, L.dx, _, _, rfl, h1.hc, T.C.cl, T.C.na _ (by decide +kernel), lk_zip (i := 0) (by decide +kernel) rfl, L.ca, L.cdx, _, rfl, h1.hca, uG_no _ _ _ _ (by decide +kernel), L.ca, L.cdx, _, _, _, _, rfl, h1.hca, ?_⟩
    have h2 := h1.causeU (m' := { m with since := 0, ticks := 0 }) T.C.U.ne rfl rfl rfl rfl rfl rfl (fun _ _ _ _ _ => rfl)
    have rel2 : Rel { m with since := 0, ticks := 0 } { k with cause := false, since := 0, waiting := 0 } := ⟨rel.size, rel.bufs, rel.mine, rel.ring, rel.lent, rel.part, rel.part4, rel.out, rel.many, rel.late, rel.turn, rel.sent, rfl, rel.come, rel.drop, rfl⟩
    have nt : t ≠ L.ca := (ne_of_none h.hca ht).symm
    refine ⟨_, rfl, kont _ own t ⟨_, ⟨L, h2⟩, rel2, wf'⟩ (COutW.trans f2 (CNew.refl _ _) (h1.outU h1.oca).weak) (CNew.refl _ _) f3 f4 ?_⟩
    refine (upd_ne nt).trans ?_
    rw [upd_same, cause_rel rel wf, rel.since]
    rfl
/-! ### state -/
theorem scOState : FnScope ["card", "numbers", "ring"] ["card", "numbers"] (defScope sOState) := ⟨rfl, rfl, rfl, by decide +kernel, rfl, by decide +kernel, by decide +kernel⟩
theorem ok_ostate {f : Addr} {fd : FuncData} (F : Fun K "answer_state" "answer_state" sOState f fd) (T : OTxt K mg CD CR CC CU) : FnOk P w K mg base CX0 1 f fd ["card", "numbers"] (spOn CD (CardC CD CR CC CU) 14) := by
  refine F.ok scOState (fun vs H Q E h => ?_) (fun cdv A outer s H vs Q E hr h => ?_)
  · obtain ⟨c, q, k, own, xs, kk, rfl, _⟩ := h
    rfl
  · obtain ⟨c, q, k, own, xs, kk, rfl, ⟨m, hc, rel, wf⟩, oq, hq, hk, hw, kont⟩ := h
    obtain ⟨r, rfl, rfl⟩ := callOf14 hk
    simp [rangesOf, within] at hw
    obtain ⟨L, h⟩ := id hc
    have hi : r.toNat < 5 := by omega
    have eon : Sj50.on k (.state r) = (k, ⟨0, [((m.ring r.toNat).posted.length : Int), ((m.ring r.toNat).seen.length : Int), ((m.ring r.toNat).done.length : Int), ((m.part r.toNat).length : Int)]⟩) := by
      unfold Sj50.on
      dsimp only
      rw [if_neg (by simp [Sj50.isIn]; omega)]
      by_cases e : r = 4
      · subst e
        rw [if_pos rfl, if_pos rfl]
        show _ = (k, (⟨0, [((m.ring 4).posted.length : Int), ((m.ring 4).seen.length : Int), ((m.ring 4).done.length : Int), ((m.part 4).length : Int)]⟩ : Sj50.Ans))
        rw [rel.lent, rel.part4]
        unfold lentM
        simp only [List.length_map]
        rfl
      · rw [if_neg e, if_neg e, rel.ring _ (by omega), rel.part _ (by omega)]
        rfl
    rw [eon] at kont
    obtain ⟨rdx, rp, rs, rd, rf, ps, ss, ds, _, _, ha, hp, hs, hd, hf, h1, h2, h3⟩ := id (h.hr _ hi)
    refine ⟨_, pss_cons (ps_set (i := 2) scOState.nd rfl (Or.inl rfl) (pe_ix ix_list (pe_fld (pv 0) rfl) (pe_ix ix_list (pv 1) pe_int (fun _ _ => rfl)) (fun _ _ => rfl)))
      (pss_one (ps_ret (pe_lst (pa_cons pe_int (pa_cons (pe_callB call_len_seq (by rfl) T.C.len PySem.boot_len (pa_cons (pe_fld (pv 2) rfl) pa_nil)) (pa_cons (pe_callB call_len_seq (by rfl) T.C.len PySem.boot_len (pa_cons (pe_fld (pv 2) rfl) pa_nil))
        (pa_cons (pe_callB call_len_seq (by rfl) T.C.len PySem.boot_len (pa_cons (pe_fld (pv 2) rfl) pa_nil)) (pa_cons (pe_callB call_len_seq (by rfl) T.C.len PySem.boot_len (pa_cons (pe_fld (pv 2) rfl) pa_nil)) pa_nil)))))))), ?_⟩
    refine ⟨_, rfl, c, CC, L.dx, _, _, rfl, h.hc, T.C.cl, T.C.na _ (by decide +kernel), lk_zip (i := 3) (by decide +kernel) rfl, _, rfl, q, _, _, _, rfl, rfl, SqL.of hq, rfl, L.rl, _, _, _, rfl, rfl, SqL.of h.hrl, atI_int (by omega) (range5 hi), ?_⟩
    refine ⟨_, rfl, L.ra r.toNat, CR, rdx, _, _, rfl, ha, T.C.R.cl, T.C.R.nP, rF_posted .., rp, _, rfl, .inl (SqL.of hp), _, rfl, L.ra r.toNat, CR, rdx, _, _, rfl, ha, T.C.R.cl, T.C.R.nS, rF_seen .., rs, _, rfl, .inl (SqL.of hs),
      _, rfl, L.ra r.toNat, CR, rdx, _, _, rfl, ha, T.C.R.cl, T.C.R.nD, rF_done .., rd, _, rfl, .inl (SqL.of hd), _, rfl, L.ra r.toNat, CR, rdx, _, _, rfl, ha, T.C.R.cl, T.C.R.nF, rF_frame .., rf, _, rfl, .inl (SqL.of hf), (by show 5 ≤ sizeLine; decide), fun t ht => ?_⟩
    obtain ⟨f1, f2, f3, f4⟩ := fin_new (own := own) (⟨m, hc, rel, wf⟩ : CardC CD CR CC CU H c k own) (COut.refl _ _) ht (.lst [.int 0, .int (ps.length : Int), .int (ss.length : Int), .int (ds.length : Int), .int ((bV (m.part r.toNat)).length : Int)])
    refine kont _ _ t f1 f2 (CNew.refl _ _) f3 f4 ?_
    rw [upd_same, Paired.len h1, Paired.len h2, Paired.len h3, bV_len]
    rfl
/-! ### counts -/
theorem counts_three {l : List Nat} (h : l.length = 3) : l = [l.getD 0 0, l.getD 1 0, l.getD 2 0] := by
  match l, h with
  | [a, b, c], _ => rfl
theorem scOCounts : FnScope ["card", "numbers"] ["card", "numbers"] (defScope sOCounts) := ⟨rfl, rfl, rfl, by decide +kernel, rfl, by decide +kernel, by decide +kernel⟩
theorem ok_ocounts {f : Addr} {fd : FuncData} (F : Fun K "answer_counts" "answer_counts" sOCounts f fd) (T : OTxt K mg CD CR CC CU) : FnOk P w K mg base CX0 1 f fd ["card", "numbers"] (spOn CD (CardC CD CR CC CU) 15) := by
  refine F.ok scOCounts (fun vs H Q E h => ?_) (fun cdv A outer s H vs Q E hr h => ?_)
  · obtain ⟨c, q, k, own, xs, kk, rfl, _⟩ := h
    rfl
  · obtain ⟨c, q, k, own, xs, kk, rfl, ⟨m, hc, rel, wf⟩, oq, hq, hk, hw, kont⟩ := h
    obtain ⟨rfl, rfl⟩ := callOf15 hk
    obtain ⟨L, h⟩ := id hc
    have hol : L.oas.length = m.out.length := Paired.len h.hoa
    have eon : Sj50.on k .counts = (k, ⟨0, [(m.sent : Int), (m.come : Int), (m.drop : Int), (m.out.length : Int), (m.turn : Int)]⟩) := by
      show (k, (⟨0, Sj50.ints k.counts ++ [Sj50.nat k.out.length, Sj50.nat k.turn]⟩ : Sj50.Ans)) = _
      rw [counts_three wf.counts, rel.sent, rel.come, rel.drop, rel.out, rel.turn]
      rfl
    rw [eon] at kont
    refine ⟨_, pss_one (ps_ret (pe_lst (pa_cons pe_int (pa_cons (pe_fld (pv 0) rfl) (pa_cons (pe_fld (pv 0) rfl) (pa_cons (pe_fld (pv 0) rfl) (pa_cons (pe_callB call_len_seq (by rfl) T.C.len PySem.boot_len (pa_cons (pe_fld (pv 0) rfl) pa_nil)) (pa_cons (pe_fld (pv 0) rfl) pa_nil)))))))), ?_⟩
    refine ⟨_, rfl, c, CC, L.dx, _, _, rfl, h.hc, T.C.cl, T.C.na _ (by decide +kernel), lk_zip (i := 6) (by decide +kernel) rfl, _, rfl, c, CC, L.dx, _, _, rfl, h.hc, T.C.cl, T.C.na _ (by decide +kernel), lk_zip (i := 7) (by decide +kernel) rfl, _, rfl, c, CC, L.dx, _, _, rfl, h.hc, T.C.cl, T.C.na _ (by decide +kernel), lk_zip (i := 8) (by decide +kernel) rfl,
      _, rfl, c, CC, L.dx, _, _, rfl, h.hc, T.C.cl, T.C.na _ (by decide +kernel), lk_zip (i := 5) (by decide +kernel) rfl, L.ol, _, rfl, .inl (SqL.of h.hol), _, rfl, c, CC, L.dx, _, _, rfl, h.hc, T.C.cl, T.C.na _ (by decide +kernel), lk_zip (i := 4) (by decide +kernel) rfl, (by show 6 ≤ sizeLine; decide), fun t ht => ?_⟩
    obtain ⟨f1, f2, f3, f4⟩ := fin_new (own := own) (⟨m, hc, rel, wf⟩ : CardC CD CR CC CU H c k own) (COut.refl _ _) ht (.lst [.int 0, .int (m.sent : Int), .int (m.come : Int), .int (m.drop : Int), .int ((L.oas.map V.ref).length : Int), .int (m.turn : Int)])
    refine kont _ _ t f1 f2 (CNew.refl _ _) f3 f4 ?_
    rw [upd_same, List.length_map, hol]
    rfl
end
end Rg

/-! What comes from the wire, piece by piece. Plain Lean over the specification. -/
namespace Rg
open Sj50
/-- the pieces put into the first seen buffers, one behind another: the buffers, what is done, what is still seen -/
def fillR : List Desc → List Bytes → List Bytes → List Bytes × List Desc × List Desc
  | seen, [], b => (b, [], seen)
  | [], _ :: _, b => (b, [], [])
  | d :: l, p :: ps, b =>
    let r := fillR l ps (b.set d.buf (over (b.getD d.buf []) p))
    (r.1, ⟨d.buf, p.length, ps.isEmpty⟩ :: r.2.1, r.2.2)
def putW (l : List Bytes) (x : (Desc × Bytes) × Bool) : List Bytes := l.set x.1.1.buf (over (l.getD x.1.1.buf []) x.1.2)
def doneW (x : (Desc × Bytes) × Bool) : Desc := ⟨x.1.1.buf, x.1.2.length, x.2⟩
theorem fill_gen : ∀ (ps : List Bytes) (seen : List Desc) (b : List Bytes) (k n : Nat), ps.length ≤ seen.length → k + ps.length = n →
    (((((seen.take ps.length).zip ps).zipIdx k).map fun x => (x.1, x.2 + 1 == n)).foldl putW b = (fillR seen ps b).1) ∧
    ((((seen.take ps.length).zip ps).zipIdx k).map fun x => (x.1, x.2 + 1 == n)).map doneW = (fillR seen ps b).2.1 ∧ seen.drop ps.length = (fillR seen ps b).2.2
  | [], seen, b, k, n, _, _ => ⟨by simp [fillR], by simp [fillR], by simp [fillR]⟩
  | p :: ps, [], b, k, n, h, _ => by simp at h
  | p :: ps, d :: l, b, k, n, h, e => by
    simp only [List.length_cons] at h e
    obtain ⟨h1, h2, h3⟩ := fill_gen ps l (b.set d.buf (over (b.getD d.buf []) p)) (k + 1) n (by omega) (by omega)
    have eb : (k + 1 == n) = ps.isEmpty := by
      cases ps with
      | nil =>
        simp only [List.length_nil] at e
        show (k + 1 == n) = true
        rw [beq_iff_eq]
        omega
      | cons q r =>
        simp only [List.length_cons] at e
        show (k + 1 == n) = false
        rw [beq_eq_false_iff_ne]
        omega
    simp only [List.length_cons, List.take_succ_cons, List.zip_cons_cons, List.zipIdx_cons, List.map_cons, List.foldl_cons, List.drop_succ_cons]
    refine ⟨?_, ?_, h3⟩
    · show List.foldl putW (b.set d.buf (over (b.getD d.buf []) p)) _ = (fillR l ps (b.set d.buf (over (b.getD d.buf []) p))).1
      exact h1
    · show (⟨d.buf, p.length, k + 1 == n⟩ : Desc) :: _ = ⟨d.buf, p.length, ps.isEmpty⟩ :: (fillR l ps (b.set d.buf (over (b.getD d.buf []) p))).2.1
      rw [eb]
      exact congrArg _ h2
/-- what comes, by the filling -/
theorem comes_drop {c : Card} {f : Bytes} (h : c.lent.seen.length < (pieces (f.length + 1) f).length) : c.comes f = ({ c with counts := counted c.counts 2 1 }, false) := by
  unfold Card.comes
  dsimp only
  rw [if_pos h]
theorem comes_take {c : Card} {f : Bytes} (h : (pieces (f.length + 1) f).length ≤ c.lent.seen.length) : c.comes f =
    (({ c with bufs := (fillR c.lent.seen (pieces (f.length + 1) f) c.bufs).1, lent := { c.lent with seen := (fillR c.lent.seen (pieces (f.length + 1) f) c.bufs).2.2, done := c.lent.done ++ (fillR c.lent.seen (pieces (f.length + 1) f) c.bufs).2.1 }, counts := counted c.counts 1 1 } : Card).finished (pieces (f.length + 1) f).length, true) := by
  obtain ⟨h1, h2, h3⟩ := fill_gen (pieces (f.length + 1) f) c.lent.seen c.bufs 0 (pieces (f.length + 1) f).length h (by omega)
  unfold Card.comes
  dsimp only
  rw [if_neg (by omega), ← h1, ← h2, ← h3]
  rfl
/-! ### the pieces -/
theorem pieces_short {f : Nat} {l : Bytes} (h : l.length ≤ 256) : pieces (f + 1) l = [l] := by
  unfold pieces
  rw [if_pos (show l.length ≤ SIZE from h)]
theorem pieces_long {f : Nat} {l : Bytes} (h : 256 < l.length) : pieces (f + 1) l = l.take 256 :: pieces f (l.drop 256) := by
  conv => lhs; unfold pieces
  rw [if_neg (show ¬ l.length ≤ SIZE from Nat.not_le.mpr h)]
  rfl
/-- enough fuel is enough -/
theorem pieces_fuel : ∀ {f g : Nat} {l : Bytes}, l.length < f → l.length < g → pieces f l = pieces g l
  | 0, _, _, h, _ => absurd h (Nat.not_lt_zero _)
  | _ + 1, 0, _, _, h => absurd h (Nat.not_lt_zero _)
  | f + 1, g + 1, l, h1, h2 => by
    by_cases c : l.length ≤ 256
    · rw [pieces_short c, pieces_short c]
    · rw [pieces_long (by omega), pieces_long (by omega), pieces_fuel (f := f) (g := g) (by rw [List.length_drop]; omega) (by rw [List.length_drop]; omega)]
/-- how many, for at least one byte -/
theorem pieces_count : ∀ {f : Nat} {l : Bytes}, l.length < f → 0 < l.length → (pieces f l).length = (l.length + 255) / 256
  | 0, _, h, _ => absurd h (Nat.not_lt_zero _)
  | f + 1, l, h, hp => by
    by_cases c : l.length ≤ 256
    · rw [pieces_short c]
      show 1 = _
      omega
    · rw [pieces_long (by omega), List.length_cons, pieces_count (by rw [List.length_drop]; omega) (by rw [List.length_drop]; omega), List.length_drop]
      omega
/-- the i-th -/
theorem pieces_at : ∀ {f : Nat} {l : Bytes} {i : Nat}, l.length < f → 0 < l.length → i * 256 < l.length → (pieces f l)[i]? = some ((l.drop (i * 256)).take 256)
  | 0, _, _, h, _, _ => absurd h (Nat.not_lt_zero _)
  | f + 1, l, i, h, hp, hi => by
    by_cases c : l.length ≤ 256
    · rw [pieces_short c]
      have : i = 0 := by omega
      subst this
      rw [Nat.zero_mul, List.drop_zero, List.take_of_length_le c]
      rfl
    · rw [pieces_long (by omega)]
      cases i with
      | zero =>
        rw [Nat.zero_mul, List.drop_zero]
        rfl
      | succ i =>
        rw [List.getElem?_cons_succ, pieces_at (by rw [List.length_drop]; omega) (by rw [List.length_drop]; omega) (by rw [List.length_drop]; omega), List.drop_drop]
        congr 3
        omega
/-- the filling, one piece at the end -/
theorem fill_snoc : ∀ {ps : List Bytes} {seen : List Desc} {b : List Bytes}, ps.length ≤ seen.length → (fillR seen ps b).2.2 = seen.drop ps.length
  | [], seen, b, _ => by simp [fillR]
  | p :: ps, [], b, h => by simp at h
  | p :: ps, d :: l, b, h => by
    simp only [List.length_cons] at h
    exact fill_snoc (ps := ps) (seen := l) (by omega)
end Rg

/-! A piece comes into the first lent buffer: a descriptor's numbers change. -/
namespace Rg
open PySem PySem.Spec PyProof.Rows L2
theorem dF_buf {d e : Sj50.Desc} (h : dF d = dF e) : d.buf = e.buf := by
  have h1 := dF_buffer d
  rw [h, dF_buffer e] at h1
  have h1 := Option.some.inj h1
  injection h1 with h1
  omega
theorem dF_set (d : Sj50.Desc) (n : Nat) (t : Bool) : putF "last" (.int (Sj50.bit t)) (putF "length" (.int (n : Int)) (dF d)) = dF ⟨d.buf, n, t⟩ := by
  have e1 : putF "length" (.int (n : Int)) (dF d) = dF ⟨d.buf, n, d.last⟩ := (put_past (by decide +kernel)).trans (congrArg _ put_here)
  rw [e1]
  exact (put_past (by decide +kernel)).trans (congrArg _ ((put_past (by decide +kernel)).trans (congrArg _ put_here)))
section
variable {CD CR CC CU : Addr} {H : Hp}
/-- another descriptor's numbers change -/
theorem Descs.others {x dxx : Addr} {d : Sj50.Desc} {o : HO} (hx : H x = some (.ins CD dxx (dF d))) : ∀ {vs : List V} {ds : List Sj50.Desc}, Descs CD H vs ds → (∀ e ∈ ds, e.buf ≠ d.buf) → Descs CD (upd H x o) vs ds
  | _, _, .nil, _ => .nil
  | _, _, .cons ⟨a, dx, e, ha⟩ t, n => .cons ⟨a, dx, e, (upd_ne fun q => by
      rw [q, hx] at ha
      have ha := Option.some.inj ha
      injection ha with _ _ ha
      exact n _ (List.mem_cons_self ..) (dF_buf ha).symm).trans ha⟩ (Descs.others hx t fun e m => n e (List.mem_cons_of_mem _ m))
theorem ne_desc {x dxx b : Addr} {fs : List (Str × V)} {o : HO} (hx : H x = some (.ins CD dxx fs)) (hb : H b = some o) (n : ∀ dx fs, o ≠ .ins CD dx fs) : b ≠ x := fun q => by
  rw [q, hx] at hb
  exact n _ _ (Option.some.inj hb).symm
theorem RingAt.others {a : Addr} {z : Nat} {r : Sj50.Ring} {fr : Sj50.Bytes} {F : List Addr} {x dxx : Addr} {d : Sj50.Desc} {o : HO} (hne : CR ≠ CD) (R : RingAt CD CR H a z r fr F) (hx : H x = some (.ins CD dxx (dF d))) (n : ∀ e ∈ r.all, e.buf ≠ d.buf) : RingAt CD CR (upd H x o) a z r fr F := by
  obtain ⟨dx, p, s, dd, f, ps, ss, ds, rfl, nd, ha, hp, hs, hd, hf, h1, h2, h3⟩ := R
  exact ⟨dx, p, s, dd, f, ps, ss, ds, rfl, nd, (upd_ne (ne_desc hx ha fun _ _ q => hne (by injection q))).trans ha, (upd_ne (ne_desc hx hp fun _ _ q => nomatch q)).trans hp, (upd_ne (ne_desc hx hs fun _ _ q => nomatch q)).trans hs, (upd_ne (ne_desc hx hd fun _ _ q => nomatch q)).trans hd, (upd_ne (ne_desc hx hf fun _ _ q => nomatch q)).trans hf,
    h1.others hx fun e m => n e (List.mem_append_left _ (List.mem_append_left _ m)), h2.others hx fun e m => n e (List.mem_append_left _ (List.mem_append_right _ m)), h3.others hx fun e m => n e (List.mem_append_right _ m)⟩
/-- the first that is seen: where it stands -/
theorem RingAt.first {a : Addr} {z : Nat} {r : Sj50.Ring} {fr : Sj50.Bytes} {F : List Addr} {d : Sj50.Desc} {l : List Sj50.Desc} (R : RingAt CD CR H a z r fr F) (es : r.seen = d :: l) :
    ∃ (dx p s dd f x dxx : Addr) (ss : List V), a ∈ F ∧ s ∈ F ∧ H a = some (.ins CR dx (rF z p s dd f)) ∧ H s = some (.lst (.ref x :: ss)) ∧ H x = some (.ins CD dxx (dF d)) := by
  obtain ⟨dx, p, s, dd, f, ps, ss, ds, rfl, nd, ha, hp, hs, hd, hf, h1, h2, h3⟩ := R
  rw [es] at h2
  rcases h2 with _ | ⟨⟨x, dxx, rfl, hx⟩, ht⟩
  exact ⟨dx, p, s, dd, f, x, dxx, _, by simp, by simp, ha, hs, hx⟩
/-- .. and its numbers change -/
theorem RingAt.firstU {a : Addr} {z : Nat} {r : Sj50.Ring} {fr : Sj50.Bytes} {F : List Addr} {d d' : Sj50.Desc} {l : List Sj50.Desc} {dx p s dd f x dxx : Addr} {ss : List V} (hne : CR ≠ CD) (R : RingAt CD CR H a z r fr F) (es : r.seen = d :: l) (ha : H a = some (.ins CR dx (rF z p s dd f))) (hs : H s = some (.lst (.ref x :: ss))) (hx : H x = some (.ins CD dxx (dF d)))
    (n : ∀ e ∈ r.posted ++ l ++ r.done, e.buf ≠ d.buf) : RingAt CD CR (upd H x (.ins CD dxx (dF d'))) a z { r with seen := d' :: l } fr F := by
  obtain ⟨dx1, p1, s1, d1, f1, ps, ss1, ds, rfl, nd, ha1, hp, hs1, hd, hf, h1, h2, h3⟩ := R
  have e1 := Option.some.inj (ha.symm.trans ha1)
  injection e1 with _ e2 e3
  have e4 : s = s1 := by
    have h5 := rF_seen z p s dd f
    rw [e3, rF_seen] at h5
    have h5 := Option.some.inj h5
    injection h5 with h5
    exact h5.symm
  subst e4
  have e6 := Option.some.inj (hs.symm.trans hs1)
  injection e6 with e6
  subst e6
  rw [es] at h2
  rcases h2 with _ | ⟨_, ht⟩
  exact ⟨dx1, p1, s, d1, f1, ps, .ref x :: ss, ds, rfl, nd, (upd_ne (ne_desc hx ha1 fun _ _ q => hne (by injection q))).trans ha1, (upd_ne (ne_desc hx hp fun _ _ q => nomatch q)).trans hp, (upd_ne (ne_desc hx hs fun _ _ q => nomatch q)).trans hs, (upd_ne (ne_desc hx hd fun _ _ q => nomatch q)).trans hd, (upd_ne (ne_desc hx hf fun _ _ q => nomatch q)).trans hf,
    h1.others hx fun e m => n e (List.mem_append_left _ (List.mem_append_left _ m)), .cons ⟨x, dxx, rfl, upd_same⟩ (Descs.others hx ht fun e m => n e (List.mem_append_left _ (List.mem_append_right _ m))), h3.others hx fun e m => n e (List.mem_append_right _ m)⟩
/-- the buffers in a ring of the program's card -/
def mb (m : M) (i : Nat) : List Nat := (m.ring i).all.map (·.buf)
structure Dist (m : M) : Prop where
  nod : ∀ i, i < 5 → (mb m i).Nodup
  dj : ∀ i j, i < 5 → j < 5 → i ≠ j → ∀ b ∈ mb m i, b ∉ mb m j
theorem Rel.bufs_at {m : M} {c : Sj50.Card} (r : Rel m c) {i : Nat} (hi : i < 5) : mb m i = bufsOf c i := by
  unfold mb bufsOf
  by_cases e : i < 4
  · rw [r.ring i e, rr_of e]
  · have : i = 4 := by omega
    subst this
    rw [r.lent, rr_4]
    unfold lentM Sj50.Ring.all
    simp only [List.map_append, List.map_map]
    rfl
theorem Rel.dist {m : M} {c : Sj50.Card} (r : Rel m c) (w : WF c) : Dist m where
  nod := fun i hi => by
    rw [r.bufs_at hi]
    exact (w.one i hi).1
  dj := fun i j hi hj n b hb hb' => by
    rw [r.bufs_at hi] at hb
    rw [r.bufs_at hj] at hb'
    have h1 := (w.one i hi).2 b hb
    rw [(w.one j hj).2 b hb'] at h1
    omega
theorem Dist.first {m : M} (D : Dist m) {d : Sj50.Desc} {l : List Sj50.Desc} (es : (m.ring 4).seen = d :: l) : (∀ e ∈ (m.ring 4).posted ++ l ++ (m.ring 4).done, e.buf ≠ d.buf) ∧ ∀ i, i < 4 → ∀ e ∈ (m.ring i).all, e.buf ≠ d.buf := by
  have pm : ((m.ring 4).all).Perm (d :: ((m.ring 4).posted ++ l ++ (m.ring 4).done)) := by
    unfold Sj50.Ring.all
    rw [es, List.append_assoc, List.append_assoc]
    exact List.perm_middle
  have pb := pm.map (·.buf)
  have nd := pb.nodup_iff.mp (D.nod 4 (by decide))
  rw [List.map_cons, List.nodup_cons] at nd
  refine ⟨fun e he q => nd.1 (List.mem_map.mpr ⟨e, he, q⟩), fun i hi e he q => ?_⟩
  refine D.dj i 4 (by omega) (by decide) (by omega) e.buf (List.mem_map.mpr ⟨e, he, rfl⟩) ?_
  refine pb.mem_iff.mpr ?_
  rw [q, List.map_cons]
  exact List.mem_cons_self ..
/-- the first lent one's numbers change -/
theorem CardL.descU {c : Addr} {m : M} {own : Owns} {L : Lay} (h : CardL CD CR CC CU H c m own L) (hne : CR ≠ CD) (D : Dist m) {d d' : Sj50.Desc} {l : List Sj50.Desc} {dx p s dd f x dxx : Addr} {ss : List V} (es : (m.ring 4).seen = d :: l)
    (ha : H (L.ra 4) = some (.ins CR dx (rF m.size p s dd f))) (hs : H s = some (.lst (.ref x :: ss))) (hx : H x = some (.ins CD dxx (dF d))) :
    CardL CD CR CC CU (upd H x (.ins CD dxx (dF d'))) c { m with ring := upd1 m.ring 4 { m.ring 4 with seen := d' :: l } } own L := by
  obtain ⟨n1, n2⟩ := D.first es
  have ox := h.desc_own hx
  have k : ∀ {y : Addr} {t : Nat}, own y = some t → upd H x (.ins CD dxx (dF d')) y = H y := fun {y t} e => upd_ne fun q => by
    rw [q, ox] at e
    cases e
  refine ⟨h.oc, h.obl, h.oml, h.orl, h.ool, h.oca, h.oba, h.ooa, h.oFr, fun y t e => ?_, (k h.oc).trans h.hc, (k h.oca).trans h.hca, (k h.obl).trans h.hbl, Paired.memMono (fun a q b z => (k (h.oba a q)).trans z) h.hba, (k h.oml).trans h.hml, (k h.orl).trans h.hrl, (k h.ool).trans h.hol,
    Paired.memMono (fun a q b z => (k (h.ooa a q)).trans z) h.hoa, fun i hi => ?_⟩
  · rw [k e]
    exact h.cells y t e
  · by_cases e : i = 4
    · subst e
      show RingAt CD CR _ (L.ra 4) m.size (upd1 m.ring 4 _ 4) (m.part 4) (L.Fr 4)
      rw [upd1_same]
      exact (h.hr 4 hi).firstU hne es ha hs hx n1
    · show RingAt CD CR _ (L.ra i) m.size (upd1 m.ring 4 _ i) (m.part i) (L.Fr i)
      rw [upd1_ne e]
      exact (h.hr i hi).others hne hx (n2 i (by omega))
end
def M.fill (m : M) (p : Sj50.Bytes) (t : Bool) (d : Sj50.Desc) (l : List Sj50.Desc) : M :=
  { m with bufs := m.bufs.set d.buf (Sj50.over (m.bufs.getD d.buf []) p), ring := upd1 m.ring 4 { m.ring 4 with seen := l, done := (m.ring 4).done ++ [⟨d.buf, p.length, t⟩] }, since := m.since + 1 }
theorem M.fill_ring4 {m : M} {p : Sj50.Bytes} {t : Bool} {d : Sj50.Desc} {l : List Sj50.Desc} : (m.fill p t d l).ring 4 = { m.ring 4 with seen := l, done := (m.ring 4).done ++ [⟨d.buf, p.length, t⟩] } := upd1_same (f := m.ring) (i := 4)
theorem M.fill_ring {m : M} {p : Sj50.Bytes} {t : Bool} {d : Sj50.Desc} {l : List Sj50.Desc} {i : Nat} (h : i ≠ 4) : (m.fill p t d l).ring i = m.ring i := upd1_ne (f := m.ring) h
theorem Fit.fill {m : M} (F : Fit m) {p : Sj50.Bytes} {t : Bool} {d : Sj50.Desc} {l : List Sj50.Desc} (es : (m.ring 4).seen = d :: l) (hp : p.length ≤ 256) : Fit (m.fill p t d l) where
  used := fun i hi => by
    by_cases e : i = 4
    · subst e
      have := F.used 4 hi
      rw [M.fill_ring4]
      unfold Sj50.Ring.used at this ⊢
      rw [es] at this
      simp only [List.length_cons, List.length_append, List.length_nil] at this ⊢
      omega
    · rw [M.fill_ring e]
      exact F.used i hi
  desc := fun i hi => by
    by_cases e : i = 4
    · subst e
      rw [M.fill_ring4]
      intro x hx
      have hd := F.desc 4 hi d (.inr (.inl (by rw [es]; exact List.mem_cons_self ..)))
      rcases hx with hx | hx | hx
      · exact F.desc 4 hi x (.inl hx)
      · exact F.desc 4 hi x (.inr (.inl (by rw [es]; exact List.mem_cons_of_mem _ hx)))
      · rcases List.mem_append.mp hx with hx | hx
        · exact F.desc 4 hi x (.inr (.inr hx))
        · rw [List.mem_singleton.mp hx]
          exact ⟨hd.1, hp⟩
    · rw [M.fill_ring e]
      exact F.desc i hi
  part := F.part
  out := F.out
  bufs := by
    show (m.bufs.set _ _).length = 64
    rw [List.length_set]
    exact F.bufs
  buf := fun b hb => by
    have hd := F.desc 4 (by decide) d (.inr (.inl (by rw [es]; exact List.mem_cons_self ..)))
    rcases mem_set_or hb with hb | hb
    · rw [hb]
      exact over_len (F.buf _ (getD_mem (by rw [F.bufs]; exact hd.1))) hp
    · exact F.buf b hb
  mine := F.mine
theorem Dist.fill {m : M} (D : Dist m) {p : Sj50.Bytes} {t : Bool} {d : Sj50.Desc} {l : List Sj50.Desc} (es : (m.ring 4).seen = d :: l) : Dist (m.fill p t d l) := by
  have pm : ∀ i, i < 5 → (mb (m.fill p t d l) i).Perm (mb m i) := fun i hi => by
    unfold mb
    by_cases e : i = 4
    · subst e
      rw [M.fill_ring4]
      unfold Sj50.Ring.all
      rw [es]
      simp only [List.map_append, List.map_cons, List.map_nil, List.append_assoc]
      refine List.Perm.append_left _ ?_
      rw [← List.append_assoc]
      exact List.perm_append_singleton ..
    · rw [M.fill_ring e]
  exact ⟨fun i hi => (pm i hi).nodup_iff.mpr (D.nod i hi), fun i j hi hj n b hb hb' => D.dj i j hi hj n b ((pm i hi).mem_iff.mp hb) ((pm j hj).mem_iff.mp hb')⟩
abbrev sCFill : Stmt := inClass (top 16) 11
/-- card.fill_first(piece, last) -/
def spFill (CD CR CC CU : Addr) : Sp := fun vs H Q _ => ∃ (c q : Addr) (m : M) (own : Owns) (p : Sj50.Bytes) (t : Bool) (d : Sj50.Desc) (l : List Sj50.Desc), vs = [.ref c, .ref q, .int (Sj50.bit t)] ∧ CardAt CD CR CC CU H c m own ∧ Fit m ∧ Dist m ∧ (m.ring 4).seen = d :: l ∧ p.length ≤ 256 ∧ own q = none ∧ H q = some (.lst (bV p)) ∧
  ∀ H' own', CardAt CD CR CC CU H' c (m.fill p t d l) own' → COutW CD H H' own → CNew H own own' → Q .non H'
section
variable {P : Program} {w : World} {K : PySem.W.Frag} {mg : Str → Option Value} {base : Heap} {CD CR CC CU : Addr}
theorem scCFill : FnScope ["self", "piece", "last", "descriptor"] ["self", "piece", "last"] (defScope sCFill) := ⟨rfl, rfl, rfl, by decide +kernel, rfl, by decide +kernel, by decide +kernel⟩
theorem ok_fill {f fW fF : Addr} {fd fdW fdF : FuncData} (F : Fun K "fill_first" "Card.fill_first" sCFill f fd) (T : CTxt K mg CD CR CC CU) (S : STxt mg)
    (FW : Fun K "write" "Card.write" sCWrite fW fdW) (bW : Binds K fdW ["self", "buffer", "data"] []) (mW : Meth K CC "write" fW)
    (GF : FnOk P w K mg base CX0 2 fF fdF ["self", "ring"] (spFinC CD CR CC CU)) (bF : Binds K fdF ["self", "ring"] []) (mF : Meth K CC "finish_first" fF) : FnOk P w K mg base CX0 3 f fd ["self", "piece", "last"] (spFill CD CR CC CU) := by
  have GW : FnOk P w K mg base CX0 1 fW fdW ["self", "buffer", "data"] (spWrite CD CR CC CU) := ok_write FW T
  refine F.ok scCFill (fun vs H Q E h => ?_) (fun cdv A outer s H vs Q E hr h => ?_)
  · obtain ⟨c, q, m, own, p, t, d, l, rfl, _⟩ := h
    rfl
  · obtain ⟨c, q, m, own, p, t, d, l, rfl, hc, ft, di, es, hp, oq, hq, k⟩ := h
    obtain ⟨L, h⟩ := id hc
    obtain ⟨tL, gL⟩ := S.gL
    have hr1 : Room 1 _ := hr.mono (by decide)
    have h4 : (4 : Nat) < 5 := by decide
    obtain ⟨hdb, _⟩ := ft.desc 4 h4 d (.inr (.inl (by rw [es]; exact List.mem_cons_self ..)))
    have hbl : d.buf < m.bufs.length := by rw [ft.bufs]; exact hdb
    have hb256 : (m.bufs.getD d.buf []).length ≤ 256 := Nat.le_of_eq (ft.buf _ (getD_mem hbl))
    refine ⟨_, pss_cons (ps_set (i := 3) scCFill.nd rfl (Or.inl rfl) (pe_ix ix_list (pe_fld (pe_ix ix_list (pe_fld (pv 0) rfl) (pe_glob (v := .int 4) rfl gL ⟨_, rfl⟩) (fun _ _ => rfl)) rfl) pe_int (fun _ _ => rfl)))
      (pss_cons (ps_expr (pe_meth (pv 0) T.cl mW GW hr1 bW .nil pass0 (pa_cons (pe_fld (pv 3) rfl) (pa_cons (pv 1) pa_nil))))
      (pss_cons (ps_fld (pv 3) (pe_callB call_len_seq (by rfl) T.len PySem.boot_len (pa_cons (pv 1) pa_nil)) rfl)
      (pss_cons (ps_fld (pv 3) (pv 2) rfl)
      (pss_one (ps_expr (pe_meth (pv 0) T.cl mF GF hr bF .nil pass0 (pa_cons (pe_glob (v := .int 4) rfl gL ⟨_, rfl⟩) pa_nil))))))), ?_⟩
    obtain ⟨rdx, rp, rs, rd, rf, x, dxx, ss, ma, ms, ha, hs, hx⟩ := (h.hr 4 h4).first es
    refine ⟨_, rfl, c, CC, L.dx, _, _, rfl, h.hc, T.cl, T.na _ (by decide +kernel), lk_zip (i := 3) (by decide +kernel) rfl, L.rl, _, _, _, rfl, rfl, SqL.of h.hrl, atI_nat (j := 4) (range5 (i := 4) h4), L.ra 4, CR, rdx, _, _, rfl, ha, T.R.cl, T.R.nS, rF_seen .., rs, _, _, _, rfl, rfl, SqL.of hs, atI_nat (j := 0) (v := .ref x) rfl, ?_⟩
    refine ⟨_, rfl, c, L.dx, _, rfl, h.hc, cF_no (by decide +kernel), _, rfl, x, CD, dxx, _, _, rfl, hx, T.DT.cl, T.DT.nB, dF_buffer d, _, rfl, c, q, m, own, L, d.buf, p, rfl, h, hbl, hb256, hp, hq, fun H1 own1 L1 h1 er1 kr1 co1 cn1 => ?_⟩
    have ox := h.desc_own hx
    have hx1 := co1 _ _ hx ox
    have hq1 := co1 _ _ hq oq
    refine ⟨_, rfl, q, _, rfl, .inl (SqL.of hq1), _, rfl, x, CD, dxx, _, rfl, hx1, T.DT.cl, T.DT.nL, (by show 3 < 1000; decide), ?_⟩
    refine ⟨_, rfl, _, rfl, x, CD, dxx, _, rfl, upd_same, T.DT.cl, T.DT.nT, Nat.lt_of_le_of_lt put_len (by show 4 < 1000; decide), ?_⟩
    rw [upd_upd, bV_len, dF_set]
    have es1 : ((m.write d.buf p).ring 4).seen = d :: l := es
    have di1 : Dist (m.write d.buf p) := ⟨di.nod, di.dj⟩
    have ha1 : H1 (L1.ra 4) = some (.ins CR rdx (rF m.size rp rs rd rf)) := by
      rw [er1]
      exact kr1 _ _ _ (h.oFr 4 h4 _ ma) (by decide) ha
    have hs1 := kr1 _ _ _ (h.oFr 4 h4 _ ms) (by decide) hs
    have h2 := h1.descU (d' := ⟨d.buf, p.length, t⟩) T.R.ne di1 es1 ha1 hs1 hx1
    have ox1 := h1.desc_own hx1
    have cw : COutW CD H1 (upd H1 x (.ins CD dxx (dF ⟨d.buf, p.length, t⟩))) own1 := fun b o e z => by
      by_cases y : b = x
      · subst y
        rw [hx1] at e
        have e := Option.some.inj e
        subst e
        exact .inr ⟨dxx, _, _, rfl, upd_same⟩
      · exact .inl ((upd_ne y).trans e)
    refine ⟨_, rfl, c, L1.dx, _, rfl, h2.hc, cF_no (by decide +kernel), c, _, own1, L1, 4, ⟨d.buf, p.length, t⟩, l, rfl, h2, h4, ?_, ?_, fun H3 own3 L3 h3 er3 co3 cn3 => ?_⟩
    · show (upd1 m.ring 4 { m.ring 4 with seen := ⟨d.buf, p.length, t⟩ :: l } 4).used ≤ 1000
      rw [upd1_same]
      have := ft.used 4 h4
      unfold Sj50.Ring.used at this ⊢
      rw [es] at this
      simp only [List.length_cons] at this ⊢
      omega
    · show (upd1 m.ring 4 { m.ring 4 with seen := ⟨d.buf, p.length, t⟩ :: l } 4).seen = _
      rw [upd1_same]
    · have em : M.fin { m.write d.buf p with ring := upd1 m.ring 4 { m.ring 4 with seen := ⟨d.buf, p.length, t⟩ :: l } } 4 ⟨d.buf, p.length, t⟩ l = m.fill p t d l := by
        unfold M.fin M.fill M.write
        dsimp only
        rw [upd1_same, upd1_upd1]
      have h3 : CardL CD CR CC CU H3 c (m.fill p t d l) own3 L3 := em ▸ h3
      exact k H3 own3 ⟨L3, h3⟩ (COutW.trans co1.weak cn1 (COutW.trans cw (CNew.refl _ _) co3.weak)) (CNew.trans co1 cn1 (CNew.transW cw (CNew.refl _ _) cn3))
end
end Rg

/-! What comes: its pieces, one buffer after another. -/
namespace Rg
open PySem PySem.Spec PyProof.Rows L2
/-- a comprehension over a range with a step -/
theorem lcStep {a0 st : Int} {len : Nat} {tg : TG} {ti : TT} {el : TE} {sl : List Nat} {s0 : L2.St} {G : Hp} {at_ : Addr} {Then : Hp → Prop} (I : Nat → Hp → Prop)
    (start : I 0 (upd G at_ (.lst [])))
    (turn : ∀ j h, j < len → I j h → tg (.int (a0 + (j : Nat) * st)) (wipe s0 sl) h fun s1 h1 => wipe s1 sl = wipe s0 sl ∧ ti s1 h1 fun yes h2 =>
        if yes = true then el s1 h2 fun v h3 => ∃ made, h3 at_ = some (.lst made) ∧ made.length < sizeLine ∧ I (j + 1) (upd h3 at_ (.lst (made ++ [v]))) else I (j + 1) h2)
    (stop : ∀ h, I len h → Then h) :
    ∃ W : Nat → Nat → Hp → Prop, (∃ k, W 0 k (upd G at_ (.lst []))) ∧ ∀ j k h, W j k h →
      ((Itc a0 st len).stop j h ∧ Then h) ∨ ((Itc a0 st len).go j h ∧ ∃ N : Hp → Prop, (∀ h', N h' → ∃ k', k' < k ∧ W (j + 1) k' h') ∧ ∀ x h', (Itc a0 st len).yld j h x h' →
        tg x (wipe s0 sl) h' fun s1 h1 => wipe s1 sl = wipe s0 sl ∧ ti s1 h1 fun yes h2 => if yes = true then el s1 h2 fun v h3 => ∃ made, h3 at_ = some (.lst made) ∧ made.length < sizeLine ∧ N (upd h3 at_ (.lst (made ++ [v]))) else N h2) := by
  refine ⟨fun j k h => k + j = len ∧ I j h, ⟨len, Nat.add_zero _, start⟩, ?_⟩
  rintro j k h ⟨ek, ij⟩
  cases k with
  | zero =>
    have e : j = len := by omega
    exact .inl ⟨Nat.le_of_eq e.symm, stop h (e ▸ ij)⟩
  | succ k =>
    refine .inr ⟨by show j < len; omega, I (j + 1), fun h' z => ⟨k, Nat.lt_succ_self k, by omega, z⟩, ?_⟩
    rintro x h' ⟨e1, e2⟩
    rw [e1, e2]
    exact turn j h (by omega) ij
theorem rgc256 {n : Nat} (h : n ≤ 1024) : RgC 0 (n : Int) 256 ((n + 255) / 256) := by
  have e : Builtin.Range.rangeSize 0 (n : Int) 256 = (((n + 255) / 256 : Nat) : Int) := by
    unfold Builtin.Range.rangeSize
    rw [if_pos (by decide)]
    split <;> omega
  refine ⟨by decide, by decide, ?_, e⟩
  unfold Builtin.Range.small
  rw [e]
  rw [if_pos (show (256 : Int) > 0 by decide)]
  simp only [Builtin.Range.rangeFitsLong, Bool.and_eq_true, Bool.or_eq_true, decide_eq_true_eq]
  omega
theorem cut_last (xs : List V) (y : V) : cutV (xs ++ [y]) none (some (-1)) = xs := by
  unfold cutV
  have e : HT.sIx (xs ++ [y]).length (xs ++ [y]).length (some (-1)) = xs.length := by
    show (if (-1 : Int) < 0 then ((-1 : Int) + ((xs ++ [y]).length : Int)).toNat else min (-1 : Int).toNat (xs ++ [y]).length) = _
    rw [if_pos (by decide), List.length_append, List.length_singleton]
    omega
  rw [e, HT.sIx_none, List.drop_zero, Nat.sub_zero, List.take_left]
theorem Paired.snoc {α β : Type} {R : α → β → Prop} : ∀ {ys : List β} {xs : List α} {y : β}, Paired R xs (ys ++ [y]) → ∃ xs0 x, xs = xs0 ++ [x] ∧ Paired R xs0 ys ∧ R x y
  | [], _, _, .cons r .nil => ⟨[], _, rfl, .nil, r⟩
  | _ :: ys, _, _, .cons r t => by
    obtain ⟨xs0, x, rfl, h1, h2⟩ := Paired.snoc (ys := ys) t
    exact ⟨_ :: xs0, x, rfl, .cons r h1, h2⟩
abbrev sPieces : Stmt := top 13
abbrev sCRecv : Stmt := inClass (top 16) 10
abbrev sOWire : Stmt := top 37
/-- in_pieces(data) -/
def spPieces : Sp := fun vs H Q _ => ∃ (q : Addr) (x : Sj50.Bytes), vs = [.ref q] ∧ H q = some (.lst (bV x)) ∧ 0 < x.length ∧ x.length ≤ 1024 ∧
  ∀ (H' : Hp) (D : Addr) (as : List Addr), Same H H' → H D = none → H' D = some (.lst (as.map V.ref)) → Paired (BytesAt H') as (Sj50.pieces (x.length + 1) x) → (∀ a ∈ as, H a = none) → Q (.ref D) H'
section
variable {P : Program} {w : World} {K : PySem.W.Frag} {mg : Str → Option Value} {base : Heap} {CD CR CC CU : Addr}
theorem scPieces : FnScope ["data", "begin"] ["data"] (defScope sPieces) := ⟨rfl, rfl, rfl, by decide +kernel, rfl, by decide +kernel, by decide +kernel⟩
theorem ok_pieces {f : Addr} {fd : FuncData} (F : Fun K "in_pieces" "in_pieces" sPieces f fd) (gl : mg "len" = none) (gr : mg "range" = none) (gZ : ∃ t, mg "BUFFER_BYTES" = some (.int 256 t)) : FnOk P w K mg base CX0 1 f fd ["data"] spPieces := by
  refine F.ok scPieces (fun vs H Q E h => ?_) (fun cdv A outer s H vs Q E hr h => ?_)
  · obtain ⟨q, x, rfl, _⟩ := h
    rfl
  · obtain ⟨q, x, rfl, hq, hp0, hp1, k⟩ := h
    obtain ⟨tZ, gZ⟩ := gZ
    refine ⟨_, pss_one (ps_ret (pe_lc (own := [("begin", 1)]) (g := gName 1) (tt := tYes) rfl scPieces.nd (pi_range3 rfl gr (pa_cons pe_int (pa_cons (pe_callB call_len_seq (by rfl) gl PySem.boot_len (pa_cons (pv 0) pa_nil)) (pa_cons (pe_glob (v := .int 256) rfl gZ ⟨_, rfl⟩) pa_nil))))
      (blkOk_by (own := [("begin", 1)]) (N := ["data", "begin"]) (sc := defScope sPieces) (by decide +kernel)) (fun _ _ _ _ _ => pg_name (i := 1) scPieces.nd rfl (Or.inl rfl)) (fun _ _ _ _ _ => pts_nil)
      (fun _ _ _ _ _ => pe_slice (r := rSlL K) sl_list (pv 0) (po_some (pv 1)) (po_some (pe_op op_add (pv 1) (pe_glob (v := .int 256) rfl gZ ⟨_, rfl⟩)))))), ?_⟩
    have hc : (Sj50.pieces (x.length + 1) x).length = (x.length + 255) / 256 := pieces_count (Nat.lt_succ_self _) hp0
    have hat : ∀ i, i < (x.length + 255) / 256 → (Sj50.pieces (x.length + 1) x)[i]? = some ((x.drop (i * 256)).take 256) := fun i hi => pieces_at (Nat.lt_succ_self _) hp0 (by omega)
    refine ⟨_, rfl, q, _, rfl, .inl (SqL.of hq), 0, _, 256, (x.length + 255) / 256, rfl, (by rw [bV_len]; exact rgc256 hp1), fun D hD => lcStep (fun i h => ∃ as : List Addr, as.length = i ∧ h D = some (.lst (as.map V.ref)) ∧ Paired (BytesAt h) as ((Sj50.pieces (x.length + 1) x).take i) ∧ (∀ a ∈ as, H a = none ∧ a ≠ D) ∧ Same H h)
      ⟨[], rfl, upd_same, .nil, (fun a z => nomatch z), Same.upd hD⟩ ?_ ?_⟩
    · rintro i h hi ⟨as, hl, hA, hP, hN, hS⟩
      refine ⟨rfl, _, rfl, _, rfl, _, rfl, _, rfl, _, _, rfl, rfl, _, rfl, q, _, rfl, SqL.of (hS _ _ hq), fun p hp => ?_⟩
      have ec : cutV (bV x) (some (0 + (i : Int) * 256)) (some (0 + (i : Int) * 256 + 256)) = bV ((x.drop (i * 256)).take 256) := by
        rw [cut_mid (by omega) (by omega), bV_take, bV_drop, show (0 + (i : Int) * 256).toNat = i * 256 by omega, show (0 + (i : Int) * 256 + 256).toNat - i * 256 = 256 by omega]
      have s1 := Same.upd (o := .lst (cutV (bV x) (some (0 + (i : Int) * 256)) (some (0 + (i : Int) * 256 + 256)))) hp
      have nD : D ≠ p := ne_of_none hA hp
      refine ⟨_, s1 _ _ hA, Nat.lt_of_le_of_lt (show _ ≤ 64 by rw [List.length_map]; omega) (by decide), as ++ [p], by simp [hl], ?_, ?_, fun a ha => ?_, fun b o e => ?_⟩
      · rw [upd_same, List.map_append]
        rfl
      · rw [take_more (hat i hi)]
        refine Paired.append (Paired.memMono (fun a ha b z => (upd_ne (hN a ha).2).trans (s1 _ _ z)) hP) (.cons ?_ .nil)
        show upd _ D _ p = _
        rw [upd_ne nD.symm, upd_same, ec]
      · rcases List.mem_append.mp ha with ha | ha
        · exact hN a ha
        · rw [List.mem_singleton.mp ha]
          exact ⟨hS.free hp, nD.symm⟩
      · exact (upd_ne (ne_of_none e hD)).trans (s1 _ _ (hS _ _ e))
    · rintro h ⟨as, hl, hA, hP, hN, hS⟩
      rw [← hc, List.take_length] at hP
      exact k h D as hS hD hA hP fun a ha => (hN a ha).1
end
end Rg

namespace Rg
open PySem PySem.Spec PyProof.Rows L2
def M.fill1 (m : M) (p : Sj50.Bytes) (t : Bool) : M := match (m.ring 4).seen with
  | [] => m
  | d :: l => m.fill p t d l
def M.fills (m : M) (ps : List Sj50.Bytes) : M := ps.foldl (fun m p => m.fill1 p false) m
def M.fillsR : List Sj50.Bytes → M → M
  | [], m => m
  | p :: ps, m => M.fillsR ps (m.fill1 p ps.isEmpty)
theorem M.fill1_eq {m : M} {p : Sj50.Bytes} {t : Bool} {d : Sj50.Desc} {l : List Sj50.Desc} (es : (m.ring 4).seen = d :: l) : m.fill1 p t = m.fill p t d l := by
  unfold M.fill1
  rw [es]
theorem M.fillsR_snoc : ∀ {ps : List Sj50.Bytes} {m : M} {p : Sj50.Bytes}, M.fillsR (ps ++ [p]) m = (m.fills ps).fill1 p true
  | [], m, p => rfl
  | q :: ps, m, p => by
    have e : (ps ++ [p]).isEmpty = false := by cases ps <;> rfl
    show M.fillsR (ps ++ [p]) (m.fill1 q (ps ++ [p]).isEmpty) = _
    rw [e, M.fillsR_snoc]
    rfl
theorem M.fills_more {ps : List Sj50.Bytes} {i : Nat} {p : Sj50.Bytes} {m : M} (h : ps[i]? = some p) : m.fills (ps.take (i + 1)) = (m.fills (ps.take i)).fill1 p false := by
  unfold M.fills
  rw [take_more h, List.foldl_append]
  rfl
theorem M.fillsR_eq : ∀ {ps : List Sj50.Bytes} {m : M}, ps.length ≤ (m.ring 4).seen.length → M.fillsR ps m =
    { m with bufs := (fillR (m.ring 4).seen ps m.bufs).1, ring := upd1 m.ring 4 { m.ring 4 with seen := (fillR (m.ring 4).seen ps m.bufs).2.2, done := (m.ring 4).done ++ (fillR (m.ring 4).seen ps m.bufs).2.1 }, since := m.since + ps.length }
  | [], m, _ => by
    have e : ∀ s b, fillR s [] b = (b, [], s) := fun s b => by cases s <;> rfl
    rw [e]
    show m = _
    dsimp only
    rw [List.append_nil, List.length_nil, Nat.add_zero]
    have e2 : upd1 m.ring 4 { m.ring 4 with seen := (m.ring 4).seen, done := (m.ring 4).done } = m.ring := upd1_self
    rw [e2]
  | p :: ps, m, h => by
    cases es : (m.ring 4).seen with
    | nil => rw [es] at h; simp at h
    | cons d l =>
      rw [es] at h
      simp only [List.length_cons] at h
      show M.fillsR ps (m.fill1 p ps.isEmpty) = _
      rw [M.fill1_eq es, M.fillsR_eq (by rw [M.fill_ring4]; dsimp only; omega), M.fill_ring4]
      have ef : fillR (d :: l) (p :: ps) m.bufs = ((fillR l ps (m.bufs.set d.buf (Sj50.over (m.bufs.getD d.buf []) p))).1, ⟨d.buf, p.length, ps.isEmpty⟩ :: (fillR l ps (m.bufs.set d.buf (Sj50.over (m.bufs.getD d.buf []) p))).2.1, (fillR l ps (m.bufs.set d.buf (Sj50.over (m.bufs.getD d.buf []) p))).2.2) := rfl
      rw [ef]
      unfold M.fill
      dsimp only
      rw [upd1_upd1, List.append_assoc, List.length_cons]
      congr 1
      omega
theorem fillR_z0 : ∀ {ps : List Sj50.Bytes} {s : List Sj50.Desc} {b : List Sj50.Bytes}, fillR (s.map z0) ps b = ((fillR s ps b).1, (fillR s ps b).2.1, (fillR s ps b).2.2.map z0)
  | [], s, b => by
    have e : ∀ s b, fillR s [] b = (b, [], s) := fun s b => by cases s <;> rfl
    rw [e, e]
  | p :: ps, [], b => rfl
  | p :: ps, d :: l, b => by
    show fillR (z0 d :: l.map z0) (p :: ps) b = _
    have ef : ∀ (d : Sj50.Desc) (l : List Sj50.Desc), fillR (d :: l) (p :: ps) b = ((fillR l ps (b.set d.buf (Sj50.over (b.getD d.buf []) p))).1, ⟨d.buf, p.length, ps.isEmpty⟩ :: (fillR l ps (b.set d.buf (Sj50.over (b.getD d.buf []) p))).2.1, (fillR l ps (b.set d.buf (Sj50.over (b.getD d.buf []) p))).2.2) := fun _ _ => rfl
    rw [ef, ef, fillR_z0]
    rfl
/-- what a run of fillings keeps -/
structure Good (m : M) : Prop where
  fit : Fit m
  dist : Dist m
theorem Good.fill1 {m : M} (g : Good m) {p : Sj50.Bytes} {t : Bool} (hp : p.length ≤ 256) : Good (m.fill1 p t) := by
  cases es : (m.ring 4).seen with
  | nil =>
    unfold M.fill1
    rw [es]
    exact g
  | cons d l =>
    rw [M.fill1_eq es]
    exact ⟨g.fit.fill es hp, g.dist.fill es⟩
theorem M.fill1_seen {m : M} {p : Sj50.Bytes} {t : Bool} : ((m.fill1 p t).ring 4).seen = (m.ring 4).seen.drop 1 := by
  cases es : (m.ring 4).seen with
  | nil =>
    unfold M.fill1
    rw [es]
    exact es
  | cons d l =>
    rw [M.fill1_eq es, M.fill_ring4]
    rfl
/-- card.receive(data) -/
def spRecv (CD CR CC CU : Addr) : Sp := fun vs H Q _ => ∃ (c q : Addr) (m : M) (own : Owns) (x : Sj50.Bytes), vs = [.ref c, .ref q] ∧ CardAt CD CR CC CU H c m own ∧ Good m ∧ H q = some (.lst (bV x)) ∧ 0 < x.length ∧ x.length ≤ 1024 ∧
  ((m.ring 4).seen.length < (Sj50.pieces (x.length + 1) x).length → ∀ H' own', CardAt CD CR CC CU H' c { m with drop := (m.drop + 1) % 2 ^ 32 } own' → COutW CD H H' own → CNew H own own' → Q (.bl false) H') ∧
  ((Sj50.pieces (x.length + 1) x).length ≤ (m.ring 4).seen.length → ∀ H' own', CardAt CD CR CC CU H' c { M.fillsR (Sj50.pieces (x.length + 1) x) m with come := (m.come + 1) % 2 ^ 32 } own' → COutW CD H H' own → CNew H own own' → Q (.bl true) H')
section
variable {P : Program} {w : World} {K : PySem.W.Frag} {mg : Str → Option Value} {base : Heap} {CD CR CC CU : Addr}
theorem fills_come {ps : List Sj50.Bytes} : ∀ {m : M}, (m.fills ps).come = m.come := by
  induction ps with
  | nil => exact rfl
  | cons p ps ih =>
    intro m
    show ((m.fill1 p false).fills ps).come = m.come
    rw [ih]
    unfold M.fill1
    split <;> rfl
theorem scCRecv : FnScope ["self", "data", "pieces", "piece"] ["self", "data"] (defScope sCRecv) := ⟨rfl, rfl, rfl, by decide +kernel, rfl, by decide +kernel, by decide +kernel⟩
theorem ok_recv {f fI fM fL : Addr} {fd fdI fdM fdL : FuncData} (F : Fun K "receive" "Card.receive" sCRecv f fd) (T : CTxt K mg CD CR CC CU) (S : STxt mg) (gZ : ∃ t, mg "BUFFER_BYTES" = some (.int 256 t))
    (FI : Fun K "in_pieces" "in_pieces" sPieces fI fdI) (bI : Binds K fdI ["data"] []) (gI : mg "in_pieces" = some (.ref fI))
    (FM : Fun K "one_more" "one_more" sMore fM fdM) (bM : Binds K fdM ["count"] []) (gM : mg "one_more" = some (.ref fM))
    (GL : FnOk P w K mg base CX0 3 fL fdL ["self", "piece", "last"] (spFill CD CR CC CU)) (bL : Binds K fdL ["self", "piece", "last"] []) (mL : Meth K CC "fill_first" fL) : FnOk P w K mg base CX0 4 f fd ["self", "data"] (spRecv CD CR CC CU) := by
  have GI : FnOk P w K mg base CX0 1 fI fdI ["data"] spPieces := ok_pieces FI T.len S.range gZ
  have GM : FnOk P w K mg base CX0 1 fM fdM ["count"] spMore := ok_more FM S
  refine F.ok scCRecv (fun vs H Q E h => ?_) (fun cdv A outer s H vs Q E hr h => ?_)
  · obtain ⟨c, q, m, own, x, rfl, _⟩ := h
    rfl
  · obtain ⟨c, q, m, own, x, rfl, ⟨L, h⟩, gd, hq, hx0, hx1, kD, kT⟩ := h
    obtain ⟨tL, gL⟩ := S.gL
    have hr1 : Room 1 _ := hr.mono (by decide)
    have h4 : (4 : Nat) < 5 := by decide
    refine ⟨_, pss_cons (ps_set (i := 2) scCRecv.nd rfl (Or.inl rfl) (pe_call GI hr1 rfl gI FI.kp bI .nil pass0 (pa_cons (pv 1) pa_nil)))
      (pss_cons (ps_if (pt_cmpR op_lt (pe_callB call_len_seq (by rfl) T.len PySem.boot_len (pa_cons (pe_fld (pe_ix ix_list (pe_fld (pv 0) rfl) (pe_glob (v := .int 4) rfl gL ⟨_, rfl⟩) (fun _ _ => rfl)) rfl) pa_nil)) (pe_callB call_len_seq (by rfl) T.len PySem.boot_len (pa_cons (pv 2) pa_nil)) (nomark _))
        (pss_cons (ps_fld (pv 0) (pe_call GM hr1 rfl gM FM.kp bM .nil pass0 (pa_cons (pe_fld (pv 0) rfl) pa_nil)) rfl) (pss_one (ps_ret pe_bl))) pss_nil)
      (pss_cons (ps_for PassesOwn.never rfl (pi_list (pe_slice sl_list (pv 2) po_none (po_some (pe_un un_neg pe_int)))) (pg_name (i := 3) scCRecv.nd rfl (Or.inl rfl)) (pss_one (ps_expr (pe_meth (pv 0) T.cl mL GL hr bL .nil pass0 (pa_cons (pv 3) (pa_cons pe_int pa_nil))))))
      (pss_cons (ps_expr (pe_meth (pv 0) T.cl mL GL hr bL .nil pass0 (pa_cons (pe_ix ix_list (pv 2) (pe_un un_neg pe_int) (fun _ _ => rfl)) (pa_cons pe_int pa_nil))))
      (pss_cons (ps_fld (pv 0) (pe_call GM hr1 rfl gM FM.kp bM .nil pass0 (pa_cons (pe_fld (pv 0) rfl) pa_nil)) rfl)
      (pss_one (ps_ret pe_bl)))))), ?_⟩
    -- pieces = in_pieces(data)
    refine ⟨_, rfl, q, x, rfl, hq, hx0, hx1, fun H1 D as s1 nD hD hP hN => ?_⟩
    have h1 := h.same s1
    have hlen := Paired.len hP
    have co1 : COut H H1 own := fun b o e _ => s1 _ _ e
    obtain ⟨rdx, rp, rs, rd, rf, ps, ss, ds, _, _, ha, _, hs, _, _, _, hse, _⟩ := id (h1.hr 4 h4)
    have hsl := Paired.len hse
    have oD : own D = none := h.unowned nD
    refine ⟨_, rfl, c, CC, L.dx, _, _, rfl, h1.hc, T.cl, T.na _ (by decide +kernel), lk_zip (i := 3) (by decide +kernel) rfl, L.rl, _, _, _, rfl, rfl, SqL.of h1.hrl, atI_nat (j := 4) (range5 (i := 4) h4), L.ra 4, CR, rdx, _, _, rfl, ha, T.R.cl, T.R.nS, rF_seen .., rs, _, rfl, .inl (SqL.of hs), _, rfl, D, _, rfl, .inl (SqL.of hD), _, _, rfl, rfl, _, rfl, ?_⟩
    by_cases c1 : (m.ring 4).seen.length < (Sj50.pieces (x.length + 1) x).length
    · rw [decide_eq_true (by rw [hsl, List.length_map, hlen]; omega)]
      refine iteT ⟨_, rfl, c, CC, L.dx, _, _, rfl, h1.hc, T.cl, T.na _ (by decide +kernel), lk_zip (i := 8) (by decide +kernel) rfl, m.drop, rfl, _, rfl, c, CC, L.dx, _, rfl, h1.hc, T.cl, T.na _ (by decide +kernel), (by rw [cF_len]; decide), ?_⟩
      rw [cF_drop]
      have h2 := h1.nums (m' := { m with drop := (m.drop + 1) % 2 ^ 32 }) T.ne rfl rfl rfl rfl rfl rfl rfl
      exact kD c1 _ own ⟨L, h2⟩ (COut.trans co1 (CNew.refl _ _) (h1.outU h1.oc)).weak (CNew.refl _ _)
    · rw [decide_eq_false (by rw [hsl, List.length_map, hlen]; omega)]
      refine iteF ?_
      have kT := kT (by omega)
      have hne : Sj50.pieces (x.length + 1) x ≠ [] := fun e => by
        have := pieces_count (Nat.lt_succ_self x.length) hx0
        rw [e] at this
        simp at this
        omega
      obtain ⟨init, lp, ei⟩ : ∃ init lp, Sj50.pieces (x.length + 1) x = init ++ [lp] := ⟨_, _, (List.dropLast_concat_getLast hne).symm⟩
      have hpl : ∀ p ∈ Sj50.pieces (x.length + 1) x, p.length ≤ 256 := fun p hp => pieces_len hp
      rw [ei] at hP kT c1 hpl
      rw [M.fillsR_snoc] at kT
      obtain ⟨as0, al, rfl, hP0, hal⟩ := Paired.snoc hP
      have oas : ∀ a ∈ as0 ++ [al], own a = none := fun a ha => h.unowned (hN a ha)
      have hl0 := Paired.len hP0
      rw [List.length_append, List.length_singleton] at c1
      -- for piece in pieces[:-1]
      refine ⟨_, rfl, _, rfl, _, rfl, D, _, rfl, SqL.of hD, fun tk htk => ?_⟩
      have ecut : cutV ((as0 ++ [al]).map V.ref) none (some (-1)) = as0.map V.ref := by
        rw [List.map_append]
        exact cut_last _ _
      have s2 := Same.upd (o := .lst (cutV ((as0 ++ [al]).map V.ref) none (some (-1)))) htk
      have htl : upd H1 tk (.lst (cutV ((as0 ++ [al]).map V.ref) none (some (-1)))) tk = some (.lst (as0.map V.ref)) := by rw [upd_same, ecut]
      have otk : own tk = none := h1.unowned htk
      refine ⟨tk, rfl, ⟨_, SqL.of htl⟩, for_list (K := K) (a := tk) (xs := as0.map V.ref) (fun n σ H' => ∃ (v : Option V) (ow : Owns), σ = [some (.ref c), some (.ref q), some (.ref D), v] ∧ CardAt CD CR CC CU H' c (m.fills (init.take n)) ow ∧ Good (m.fills (init.take n)) ∧ ((m.fills (init.take n)).ring 4).seen = (m.ring 4).seen.drop n ∧
          COutW CD H H' own ∧ CNew H own ow ∧ H' tk = some (.lst (as0.map V.ref)) ∧ ow tk = none ∧ H' D = some (.lst ((as0 ++ [al]).map V.ref)) ∧ ow D = none ∧ Paired (BytesAt H') as0 init ∧ BytesAt H' al lp ∧ ∀ a ∈ as0 ++ [al], ow a = none)
        ⟨none, own, rfl, ⟨L, h1.same s2⟩, gd, rfl, (COut.weak fun b o e _ => s2 _ _ (s1 _ _ e)), CNew.refl _ _, htl, otk, s2 _ _ hD, oD, Paired.mono (fun a b z => s2 _ _ z) hP0, s2 _ _ hal, oas⟩ (fun n σ H' _ ⟨_, _, _, _, _, _, _, _, z, _⟩ => SqL.of z) ?_ ?_⟩
      · rintro n y σ H' hn ⟨v, ow, rfl, hc, g, es, co, cn, ht, ot, hd, od, hp, hpl2, oa⟩
        rw [List.getElem?_map] at hn
        obtain ⟨a, ea, rfl⟩ := Option.map_eq_some_iff.mp hn
        obtain ⟨p, ep, hap⟩ := Paired.get' hp ea
        have hnl : n < as0.length := (List.getElem?_eq_some_iff.mp ea).1
        obtain ⟨d, l, es2⟩ : ∃ d l, ((m.fills (init.take n)).ring 4).seen = d :: l := by
          cases e : ((m.fills (init.take n)).ring 4).seen with
          | cons d l => exact ⟨d, l, rfl⟩
          | nil =>
            rw [e] at es
            have := congrArg List.length es
            rw [List.length_drop, List.length_nil] at this
            omega
        have hpp : p.length ≤ 256 := hpl p (List.mem_append_left _ (List.mem_of_getElem? ep))
        obtain ⟨L1, h1'⟩ := id hc
        have oaa := oa a (List.mem_append_left _ (List.mem_of_getElem? ea))
        refine ⟨_, rfl, c, L1.dx, _, rfl, h1'.hc, cF_no (by decide +kernel), _, rfl, c, a, m.fills (init.take n), ow, p, false, d, l, rfl, hc, g.fit, g.dist, es2, hpp, oaa, hap, fun H2 ow2 h2 co2 cn2 => ?_⟩
        refine ⟨some (.ref a), ow2, rfl, ?_, ?_, ?_, COutW.trans co cn co2, CNew.transW co cn cn2, co2.lst ht ot, cn2.keepO ht ot, co2.lst hd od, cn2.keepO hd od, Paired.memMono (fun b hb z zz => co2.lst zz (oa b (List.mem_append_left _ hb))) hp, co2.lst hpl2 (oa al (List.mem_append_right _ (List.mem_singleton.mpr rfl))), fun b hb => ?_⟩
        · rw [M.fills_more ep, M.fill1_eq es2]
          exact h2
        · rw [M.fills_more ep]
          exact g.fill1 hpp
        · rw [M.fills_more ep, M.fill1_seen, es, List.drop_drop]
        · rcases List.mem_append.mp hb with hb' | hb'
          · obtain ⟨j, hj⟩ := List.getElem?_of_mem hb'
            obtain ⟨pj, _, hpj⟩ := Paired.get' hp hj
            exact cn2.keepO hpj (oa b hb)
          · rw [List.mem_singleton.mp hb'] at hb ⊢
            exact cn2.keepO hpl2 (oa al hb)
      · rintro σ H' ⟨v, ow, rfl, hc, g, es, co, cn, ht, ot, hd, od, hp, hpl2, oa⟩
        rw [List.length_map, hl0, List.take_length] at hc g es
        obtain ⟨d, l, es2⟩ : ∃ d l, ((m.fills init).ring 4).seen = d :: l := by
          cases e : ((m.fills init).ring 4).seen with
          | cons d l => exact ⟨d, l, rfl⟩
          | nil =>
            rw [e] at es
            have := congrArg List.length es
            rw [List.length_drop, List.length_nil] at this
            omega
        have hpp : lp.length ≤ 256 := hpl lp (List.mem_append_right _ (List.mem_singleton.mpr rfl))
        obtain ⟨L1, h1'⟩ := id hc
        rw [List.map_append] at hd
        refine ⟨_, rfl, c, L1.dx, _, rfl, h1'.hc, cF_no (by decide +kernel), _, rfl, _, rfl, D, _, _, _, rfl, rfl, SqL.of hd, atI_last _ _, c, al, m.fills init, ow, lp, true, d, l, rfl, hc, g.fit, g.dist, es2, hpp, oa al (List.mem_append_right _ (List.mem_singleton.mpr rfl)), hpl2, fun H2 ow2 h2 co2 cn2 => ?_⟩
        obtain ⟨L2, h2⟩ := h2
        rw [M.fill1_eq es2] at kT
        have ecome : ((m.fills init).fill lp true d l).come = m.come := fills_come
        refine ⟨_, rfl, c, CC, L2.dx, _, _, rfl, h2.hc, T.cl, T.na _ (by decide +kernel), lk_zip (i := 7) (by decide +kernel) rfl, m.come, (by rw [ecome]; rfl), _, rfl, c, CC, L2.dx, _, rfl, h2.hc, T.cl, T.na _ (by decide +kernel), (by rw [cF_len]; decide), ?_⟩
        rw [cF_come]
        have h3 := h2.nums (m' := { (m.fills init).fill lp true d l with come := (m.come + 1) % 2 ^ 32 }) T.ne rfl rfl rfl rfl rfl rfl rfl
        exact kT _ ow2 ⟨L2, h3⟩ (COutW.trans (COutW.trans co cn co2) (CNew.transW co cn cn2) (h2.outU h2.oc).weak) (CNew.transW co cn cn2)
end
end Rg

namespace Rg
open PySem PySem.Spec PyProof.Rows L2
theorem Rel.seen4 {m : M} {c : Sj50.Card} (h : Rel m c) : (m.ring 4).seen = c.lent.seen.map z0 := by
  rw [h.lent]
  rfl
theorem Rel.dropped {m : M} {c : Sj50.Card} (h : Rel m c) (w : WF c) : Rel { m with drop := (m.drop + 1) % 2 ^ 32 } { c with counts := Sj50.counted c.counts 2 1 } := by
  refine ⟨h.size, h.bufs, h.mine, h.ring, h.lent, h.part, h.part4, h.out, h.many, h.late, h.turn, ?_, h.since, ?_, ?_, h.ticks⟩
  · show m.sent = (Sj50.counted c.counts 2 1).getD 0 0
    rw [counted_at (by rw [w.counts]; decide), if_neg (by decide), h.sent]
  · show m.come = (Sj50.counted c.counts 2 1).getD 1 0
    rw [counted_at (by rw [w.counts]; decide), if_neg (by decide), h.come]
  · show (m.drop + 1) % 2 ^ 32 = (Sj50.counted c.counts 2 1).getD 2 0
    rw [counted_at (by rw [w.counts]; decide), if_pos rfl, h.drop]
theorem Rel.comes {m : M} {c : Sj50.Card} {f : Sj50.Bytes} (h : Rel m c) (w : WF c) (hl : (Sj50.pieces (f.length + 1) f).length ≤ c.lent.seen.length) : Rel { M.fillsR (Sj50.pieces (f.length + 1) f) m with come := (m.come + 1) % 2 ^ 32 } (c.comes f).1 := by
  rw [comes_take hl, M.fillsR_eq (by rw [h.seen4, List.length_map]; exact hl), h.seen4, fillR_z0, h.bufs]
  refine ⟨h.size, rfl, h.mine, fun i hi => ?_, ?_, h.part, h.part4, h.out, h.many, h.late, h.turn, ?_, ?_, ?_, ?_, h.ticks⟩
  · show upd1 m.ring 4 _ i = c.ring i
    rw [upd1_ne (by omega)]
    exact h.ring i hi
  · show upd1 m.ring 4 _ 4 = lentM _
    rw [upd1_same, h.lent]
    rfl
  · show m.sent = (Sj50.counted c.counts 1 1).getD 0 0
    rw [counted_at (by rw [w.counts]; decide), if_neg (by decide), h.sent]
  · show m.since + _ = c.waiting + _
    rw [h.since]
  · show (m.come + 1) % 2 ^ 32 = (Sj50.counted c.counts 1 1).getD 1 0
    rw [counted_at (by rw [w.counts]; decide), if_pos rfl, h.come]
  · show m.drop = (Sj50.counted c.counts 1 1).getD 2 0
    rw [counted_at (by rw [w.counts]; decide), if_neg (by decide), h.drop]
section
variable {P : Program} {w : World} {K : PySem.W.Frag} {mg : Str → Option Value} {base : Heap} {CD CR CC CU : Addr}
theorem scOWire : FnScope ["card", "numbers", "length"] ["card", "numbers"] (defScope sOWire) := ⟨rfl, rfl, rfl, by decide +kernel, rfl, by decide +kernel, by decide +kernel⟩
theorem ok_owire {f fR fY : Addr} {fd fdR fdY : FuncData} (F : Fun K "answer_wire" "answer_wire" sOWire f fd) (T : OTxt K mg CD CR CC CU)
    (GR : FnOk P w K mg base CX0 4 fR fdR ["self", "data"] (spRecv CD CR CC CU)) (bR : Binds K fdR ["self", "data"] []) (mR : Meth K CC "receive" fR)
    (FY : Fun K "yes_or_no" "yes_or_no" sYes fY fdY) (bY : Binds K fdY ["truth"] []) (gY : mg "yes_or_no" = some (.ref fY)) : FnOk P w K mg base CX0 5 f fd ["card", "numbers"] (spOn CD (CardC CD CR CC CU) 10) := by
  have GY : FnOk P w K mg base CX0 1 fY fdY ["truth"] spYes := ok_yes FY
  refine F.ok scOWire (fun vs H Q E h => ?_) (fun cdv A outer s H vs Q E hr h => ?_)
  · obtain ⟨c, q, k, own, xs, kk, rfl, _⟩ := h
    rfl
  · obtain ⟨c, q, k, own, xs, kk, rfl, ⟨m, hc, rel, wf⟩, oq, hq, hk, hw, kont⟩ := h
    obtain ⟨n, r, rfl, rfl, hrl, hby⟩ := callOf10 hk
    simp [rangesOf, within] at hw
    have hrl := hrl hw.1 hw.2
    obtain ⟨L, h⟩ := id hc
    have hnl : (Sj50.nats r).length = n.toNat := by
      unfold Sj50.nats
      rw [List.length_map, hrl]
    have eon : Sj50.on k (.wire n r) = ((k.comes (Sj50.nats r)).1, Sj50.just (Sj50.bit (k.comes (Sj50.nats r)).2)) := by
      unfold Sj50.on
      dsimp only
      rw [if_neg (by simp [Sj50.isIn]; omega), List.take_of_length_le (Nat.le_of_eq hrl)]
    have wf' := wf_on wf (.wire n r)
    rw [eon] at kont wf'
    refine ⟨_, pss_cons (ps_set (i := 2) scOWire.nd rfl (Or.inl rfl) (pe_ix ix_list (pv 1) pe_int (fun _ _ => rfl)))
      (pss_one (ps_ret (pe_lst (pa_cons (pe_call GY (hr.mono (by decide)) rfl gY FY.kp bY .nil pass0 (pa_cons (pe_meth (pv 0) T.C.cl mR GR hr bR .nil pass0 (pa_cons (pe_slice sl_list (pv 1) (po_some pe_int) (po_some (pe_op op_add pe_int (pv 2)))) pa_nil)) pa_nil)) pa_nil)))), ?_⟩
    refine ⟨_, rfl, q, _, _, _, rfl, rfl, SqL.of hq, atI_nat (j := 0) (v := .int n) rfl, ?_⟩
    refine ⟨_, rfl, c, L.dx, _, rfl, h.hc, cF_no (by decide +kernel), _, rfl, _, rfl, _, rfl, _, _, rfl, rfl, _, rfl, q, _, rfl, SqL.of hq, fun p1 hp1 => ?_⟩
    have ec : cutV ((n :: r).map V.int) (some 1) (some (1 + n)) = bV (Sj50.nats r) := by
      rw [cut_mid (by omega) (by omega), ← nats_bV hby]
      show (r.map V.int).take _ = _
      rw [List.take_of_length_le (by rw [List.length_map, hrl]; omega)]
    have s1 := Same.upd (o := .lst (cutV ((n :: r).map V.int) (some 1) (some (1 + n)))) hp1
    have cw1 : COutW CD H (upd H p1 (.lst (cutV ((n :: r).map V.int) (some 1) (some (1 + n))))) own := fun b o e _ => .inl (s1 _ _ e)
    refine ⟨c, p1, m, own, Sj50.nats r, rfl, ⟨L, h.same s1⟩, ⟨rel.fit wf, rel.dist wf⟩, by rw [← ec]; exact upd_same, by omega, by omega, fun hl H2 own2 h2 co2 cn2 => ?_, fun hl H2 own2 h2 co2 cn2 => ?_⟩
    · rw [rel.seen4, List.length_map] at hl
      rw [comes_drop hl] at kont wf'
      have hC2 : CardC CD CR CC CU H2 c _ own2 := ⟨_, h2, rel.dropped wf, wf'⟩
      have co3 := COutW.trans cw1 (CNew.refl _ _) co2
      have cn3 := CNew.transW cw1 (CNew.refl _ _) cn2
      refine ⟨_, rfl, (by show 1 ≤ sizeLine; decide), fun t ht => ?_⟩
      obtain ⟨f1, f2, f3, f4⟩ := fin_newW hC2 co3 ht (.lst [.int (Sj50.bit false)])
      exact kont _ _ t f1 f2 cn3 f3 f4 upd_same
    · rw [rel.seen4, List.length_map] at hl
      have e2 : (k.comes (Sj50.nats r)).2 = true := by rw [comes_take hl]
      rw [e2] at kont
      have hC2 : CardC CD CR CC CU H2 c _ own2 := ⟨_, h2, rel.comes wf hl, wf'⟩
      have co3 := COutW.trans cw1 (CNew.refl _ _) co2
      have cn3 := CNew.transW cw1 (CNew.refl _ _) cn2
      refine ⟨_, rfl, (by show 1 ≤ sizeLine; decide), fun t ht => ?_⟩
      obtain ⟨f1, f2, f3, f4⟩ := fin_newW hC2 co3 ht (.lst [.int (Sj50.bit true)])
      exact kont _ _ t f1 f2 cn3 f3 f4 upd_same
end
end Rg

namespace Rg
open PySem PySem.Spec PyProof.Rows L2
abbrev sCInit : Stmt := inClass (top 16) 0
structure ITxt (mg : Str → Option Value) (CR CU : Addr) : Prop where
  range : mg "range" = none
  gB : ∃ t, mg "BUFFERS" = some (.int 64 t)
  gZ : ∃ t, mg "BUFFER_BYTES" = some (.int 256 t)
  gR : ∃ t, mg "RINGS" = some (.int 5 t)
  gC : mg "Ring" = some (.ref CR)
  gU : mg "Cause" = some (.ref CU)
theorem put_zipNew : ∀ {ks : List Str} {vs : List V} {k : Str} {v : V}, ks.all (fun x => !(x == k)) = true → ks.length = vs.length → putF k v (ks.zip vs) = (ks ++ [k]).zip (vs ++ [v])
  | [], [], _, _, _, _ => rfl
  | [], _ :: _, _, _, _, h => by simp at h
  | _ :: _, [], _, _, _, h => by simp at h
  | x :: ks, y :: vs, k, v, h, hl => by
    rw [List.all_cons, Bool.and_eq_true] at h
    have n : ¬ x = k := fun e => by
      rw [e, beq_self_eq_true] at h
      cases h.1
    exact (put_past n).trans (congrArg _ (put_zipNew h.2 (by simpa using hl)))
/-- a new card -/
def m0 (k many late : Nat) : M := ⟨2 ^ k, List.replicate 64 (List.replicate 256 0), List.replicate 64 true, fun _ => Sj50.empty, fun _ => [], [], many, late, 0, 0, 0, 0, 0, 0⟩
theorem m0_rel (k many late : Nat) : Rel (m0 k many late) (Sj50.made k many late) where
  size := rfl
  bufs := rfl
  mine := by
    show List.replicate 64 true = (List.replicate 64 0).map (· == 0)
    rw [List.map_replicate]
    rfl
  ring := fun i _ => by
    show Sj50.empty = (List.replicate 4 Sj50.empty).getD i Sj50.empty
    rw [List.getD_eq_getElem?_getD, List.getElem?_replicate]
    split <;> rfl
  lent := rfl
  part := fun i _ => by
    show [] = (List.replicate 4 []).getD i []
    rw [List.getD_eq_getElem?_getD, List.getElem?_replicate]
    split <;> rfl
  part4 := rfl
  out := rfl
  many := rfl
  late := rfl
  turn := rfl
  sent := rfl
  since := rfl
  come := rfl
  drop := rfl
  ticks := rfl
theorem paired_rep {α β : Type} {R : α → β → Prop} {y : β} : ∀ {xs : List α}, (∀ a ∈ xs, R a y) → Paired R xs (List.replicate xs.length y)
  | [], _ => .nil
  | x :: xs, h => .cons (h x (List.mem_cons_self ..)) (paired_rep fun a ha => h a (List.mem_cons_of_mem _ ha))
section
variable {P : Program} {w : World} {K : PySem.W.Frag} {mg : Str → Option Value} {base : Heap} {CD CR CC CU : Addr}
theorem scCInit : FnScope ["self", "k", "many", "late", "buffer", "ring"] ["self", "k", "many", "late"] (defScope sCInit) := ⟨rfl, rfl, rfl, by decide +kernel, rfl, by decide +kernel, by decide +kernel⟩
theorem ok_cinit {f fR fU : Addr} {fd fdR fdU : FuncData} (F : Fun K "__init__" "Card.__init__" sCInit f fd) (T : CTxt K mg CD CR CC CU) (I : ITxt mg CR CU)
    (MR : Mk K CR fR) (FR : Fun K "__init__" "Ring.__init__" sRInit fR fdR) (bR : Binds K fdR ["self", "places"] [])
    (MU : Mk K CU fU) (FU : Fun K "__init__" "Cause.__init__" sUInit fU fdU) (bU : Binds K fdU ["self", "many", "late"] []) : FnOk P w K mg base CX0 3 f fd ["self", "k", "many", "late"] (spCardInit CC (CardC CD CR CC CU)) := by
  have GR : FnOk P w K mg base CX0 1 fR fdR ["self", "places"] (spRingInit CD CR) := ok_rinit FR T.R
  have GU : FnOk P w K mg base CX0 1 fU fdU ["self", "many", "late"] (spUInit CU) := ok_uinit FU T.U
  refine F.ok scCInit (fun vs H Q E h => ?_) (fun cdv A outer s H vs Q E hr h => ?_)
  · obtain ⟨c, dx, k, m, l, rfl, _⟩ := h
    rfl
  · obtain ⟨c, dx, k, m, l, rfl, hc, hk, hm, hl, kont⟩ := h
    obtain ⟨tB, gB⟩ := I.gB
    obtain ⟨tZ, gZ⟩ := I.gZ
    obtain ⟨tR, gR⟩ := I.gR
    refine ⟨_, pss_cons (ps_fld (pv 0) (pe_make MU GU hr rfl I.gU bU .nil pass0 (pa_cons (pv 2) (pa_cons (pv 3) pa_nil))) rfl)
      (pss_cons (ps_fld (pv 0) (pe_lc (own := [("buffer", 4)]) (g := gName 4) (tt := tYes) rfl scCInit.nd (pi_range1 rfl I.range (pa_cons (pe_glob (v := .int 64) rfl gB ⟨_, rfl⟩) pa_nil)) (blkOk_by (own := [("buffer", 4)]) (N := ["self", "k", "many", "late", "buffer", "ring"]) (sc := defScope sCInit) (by decide +kernel))
          (fun _ _ _ _ _ => pg_name (i := 4) scCInit.nd rfl (Or.inl rfl)) (fun _ _ _ _ _ => pts_nil) (fun _ _ _ _ _ => pe_op op_rep (pe_lst (pa_cons pe_int pa_nil)) (pe_glob (v := .int 256) rfl gZ ⟨_, rfl⟩))) rfl)
      (pss_cons (ps_fld (pv 0) (pe_lc (own := [("buffer", 4)]) (g := gName 4) (tt := tYes) rfl scCInit.nd (pi_range1 rfl I.range (pa_cons (pe_glob (v := .int 64) rfl gB ⟨_, rfl⟩) pa_nil)) (blkOk_by (own := [("buffer", 4)]) (N := ["self", "k", "many", "late", "buffer", "ring"]) (sc := defScope sCInit) (by decide +kernel))
          (fun _ _ _ _ _ => pg_name (i := 4) scCInit.nd rfl (Or.inl rfl)) (fun _ _ _ _ _ => pts_nil) (fun _ _ _ _ _ => pe_bl)) rfl)
      (pss_cons (ps_fld (pv 0) (pe_lc (own := [("ring", 5)]) (g := gName 5) (tt := tYes) rfl scCInit.nd (pi_range1 rfl I.range (pa_cons (pe_glob (v := .int 5) rfl gR ⟨_, rfl⟩) pa_nil)) (blkOk_by (own := [("ring", 5)]) (N := ["self", "k", "many", "late", "buffer", "ring"]) (sc := defScope sCInit) (by decide +kernel))
          (fun _ _ _ _ _ => pg_name (i := 5) scCInit.nd rfl (Or.inl rfl)) (fun _ _ _ _ _ => pts_nil) (fun _ _ _ _ _ => pe_make MR GR hr rfl I.gC bR .nil pass0 (pa_cons (pe_op op_shl pe_int (pv 1)) pa_nil))) rfl)
      (pss_cons (ps_fld (pv 0) pe_int rfl) (pss_cons (ps_fld (pv 0) (pe_lst pa_nil) rfl) (pss_cons (ps_fld (pv 0) pe_int rfl) (pss_cons (ps_fld (pv 0) pe_int rfl) (pss_one (ps_fld (pv 0) pe_int rfl))))))))), ?_⟩
    -- self.cause
    refine ⟨_, rfl, _, rfl, ?_⟩
    intro U udx nU nudx neU
    refine ⟨U, udx, m.toNat, l.toNat, ?_, upd_same, rfl, ?_⟩
    · show [V.ref U, V.int m, V.int l] = [V.ref U, V.int ((m.toNat : Nat) : Int), V.int ((l.toNat : Nat) : Int)]
      rw [Int.toNat_of_nonneg (show 0 ≤ m by omega), Int.toNat_of_nonneg (show 0 ≤ l by omega)]
    rw [upd_upd]
    have sU : Same H (upd (upd H udx (.own U)) U (.ins CU udx (uG m.toNat l.toNat 0 0))) := fun y o e => (upd_ne (ne_of_none e nU)).trans ((upd_ne (ne_of_none e nudx)).trans e)
    have hU : upd (upd H udx (.own U)) U (.ins CU udx (uG m.toNat l.toNat 0 0)) U = some (.ins CU udx (uG m.toNat l.toNat 0 0)) := upd_same
    generalize upd (upd H udx (.own U)) U (.ins CU udx (uG m.toNat l.toNat 0 0)) = HU at sU hU ⊢
    have hcU := sU _ _ hc
    have nUc : U ≠ c := (ne_of_none hc nU).symm
    refine ⟨_, rfl, c, CC, dx, _, rfl, hcU, T.cl, T.na _ (by decide +kernel), (by show 0 < 1000; decide), ?_⟩
    generalize eF2 : putF "cause" (V.ref U) [] = F2
    have lF2 : F2.length ≤ 2 := by rw [← eF2]; exact Nat.le_trans put_len (by decide)
    -- self.buffers
    refine ⟨64, rfl, by decide, by decide, fun D1 hD1 => lc_range (lo := 0) (n := 64) (fun i H' => ∃ as : List Addr, as.length = i ∧ H' D1 = some (.lst (as.map V.ref)) ∧
        (∀ a ∈ as, BytesAt H' a (List.replicate 256 0) ∧ upd HU c (.ins CC dx F2) a = none ∧ a ≠ D1) ∧ ∀ b o, upd HU c (.ins CC dx F2) b = some o → H' b = some o)
      ⟨[], rfl, upd_same, (fun a z => nomatch z), fun b o e => (Same.upd hD1) _ _ e⟩ ?_ ?_⟩
    · rintro i H' hi ⟨as, hl1, hA, has, hkp⟩
      refine ⟨rfl, (by show 1 ≤ sizeLine; decide), fun p0 hp0 => ⟨p0, 256, _, rfl, rfl, upd_same, by decide, by decide, (by show 1 * 256 ≤ sizeLine; decide), fun p hp => ?_⟩⟩
      have s0 := Same.upd (o := .lst [V.int 0]) hp0
      have s1 := Same.upd (o := .lst (List.replicate (256 : Int).toNat [V.int 0]).flatten) hp
      have hp' : H' p = none := s0.free hp
      have nD : D1 ≠ p := ne_of_none hA hp'
      have hz : (List.replicate (256 : Int).toNat [V.int 0]).flatten = bV (List.replicate 256 0) := by decide +kernel
      refine ⟨_, s1 _ _ (s0 _ _ hA), Nat.lt_of_le_of_lt (show _ ≤ 64 by rw [List.length_map]; omega) (by decide), as ++ [p], by simp [hl1], ?_, fun a ha => ?_, fun b o e => ?_⟩
      · rw [upd_same, List.map_append]
        rfl
      · rcases List.mem_append.mp ha with ha | ha
        · obtain ⟨h1, h2, h3⟩ := has a ha
          exact ⟨(upd_ne h3).trans (s1 _ _ (s0 _ _ h1)), h2, h3⟩
        · rw [List.mem_singleton.mp ha]
          refine ⟨?_, ?_, nD.symm⟩
          · show upd _ D1 _ p = _
            rw [upd_ne nD.symm, upd_same, hz]
          · cases e : upd HU c (.ins CC dx F2) p with
            | none => rfl
            | some o => rw [hkp _ _ e] at hp'; cases hp'
      · have nb : b ≠ D1 := ne_of_none e hD1
        exact (upd_ne nb).trans (s1 _ _ (s0 _ _ (hkp _ _ e)))
    rintro HA ⟨as, hal, hA, has, hkA⟩
    have hcA := hkA c _ upd_same
    have nD1 : c ≠ D1 := ne_of_none upd_same hD1
    refine ⟨_, rfl, c, CC, dx, _, rfl, hcA, T.cl, T.na _ (by decide +kernel), Nat.lt_of_le_of_lt lF2 (by decide), ?_⟩
    generalize eF3 : putF "buffers" (V.ref D1) F2 = F3
    have lF3 : F3.length ≤ 3 := by rw [← eF3]; exact Nat.le_trans put_len (Nat.succ_le_succ lF2)
    -- self.with_machine
    refine ⟨64, rfl, by decide, by decide, fun D2 hD2 => lc_range (lo := 0) (n := 64) (fun i H' => H' D2 = some (.lst ((List.replicate i true).map V.bl)) ∧ ∀ b o, upd HA c (.ins CC dx F3) b = some o → H' b = some o)
      ⟨upd_same, fun b o e => (Same.upd hD2) _ _ e⟩ ?_ ?_⟩
    · rintro i H' hi ⟨h2, hkp⟩
      refine ⟨rfl, _, h2, Nat.lt_of_le_of_lt (show _ ≤ 64 by rw [List.length_map, List.length_replicate]; omega) (by decide), ?_, fun b o e => ?_⟩
      · rw [upd_same, List.replicate_succ', List.map_append]
        rfl
      · exact (upd_ne (ne_of_none e hD2)).trans (hkp _ _ e)
    rintro HB ⟨hB, hkB⟩
    have hcB := hkB c _ upd_same
    have nD2 : c ≠ D2 := ne_of_none upd_same hD2
    refine ⟨_, rfl, c, CC, dx, _, rfl, hcB, T.cl, T.na _ (by decide +kernel), Nat.lt_of_le_of_lt lF3 (by decide), ?_⟩
    generalize eF4 : putF "with_machine" (V.ref D2) F3 = F4
    have lF4 : F4.length ≤ 4 := by rw [← eF4]; exact Nat.le_trans put_len (Nat.succ_le_succ lF3)
    -- self.rings
    have ek : (1 : Int) * 2 ^ k.toNat = ((2 ^ k.toNat : Nat) : Int) := by
      rw [Int.one_mul]
      exact (Int.natCast_pow 2 k.toNat).symm
    refine ⟨5, rfl, by decide, by decide, fun D3 hD3 => lc_range (lo := 0) (n := 5) (fun i H' => ∃ (ra : Nat → Addr) (Fr : Nat → List Addr), H' D3 = some (.lst ((List.range i).map fun j => V.ref (ra j))) ∧
        (∀ j, j < i → RingAt CD CR H' (ra j) (2 ^ k.toNat) Sj50.empty [] (Fr j)) ∧ (∀ j, j < i → ∀ a ∈ Fr j, upd HB c (.ins CC dx F4) a = none ∧ a ≠ D3) ∧ (∀ j1 j2, j1 < i → j2 < i → j1 ≠ j2 → ∀ a ∈ Fr j1, a ∉ Fr j2) ∧ ∀ b o, upd HB c (.ins CC dx F4) b = some o → H' b = some o)
      ⟨fun _ => 0, fun _ => [], upd_same, (fun j z => absurd z (Nat.not_lt_zero _)), (fun j z => absurd z (Nat.not_lt_zero _)), (fun j _ z => absurd z (Nat.not_lt_zero _)), fun b o e => (Same.upd hD3) _ _ e⟩ ?_ ?_⟩
    · rintro i H' hi ⟨ra, Fr, h3, hR, hFr, hdj, hkp⟩
      refine ⟨rfl, _, rfl, _, _, rfl, rfl, ⟨by omega, by omega, by decide⟩, ?_⟩
      intro x dxx nx ndx nex
      have sx : Same H' (upd (upd H' dxx (.own x)) x (.ins CR dxx [])) := fun y o e => (upd_ne (ne_of_none e nx)).trans ((upd_ne (ne_of_none e ndx)).trans e)
      refine ⟨x, dxx, 2 ^ k.toNat, by rw [← ek]; rfl, upd_same, fun H2 F R2 kp2 hF => ⟨rfl, ?_⟩⟩
      have s2 : Same H' H2 := fun y o e => kp2 y o (sx y o e) (ne_of_none e nx)
      have h32 := s2 _ _ h3
      have hFn : ∀ a ∈ F, H' a = none := fun a ha => by
        rcases hF a ha with e | e
        · rw [e]; exact nx
        · exact sx.free e
      refine ⟨_, h32, Nat.lt_of_le_of_lt (show _ ≤ 64 by rw [List.length_map, List.length_range]; omega) (by decide), upd1 ra i x, upd1 Fr i F, ?_, fun j hj => ?_, fun j hj a ha => ?_, fun j1 j2 h1 h2 hne a ha => ?_, fun b o e => (upd_ne (ne_of_none e hD3)).trans (s2 _ _ (hkp _ _ e))⟩
      · rw [upd_same, List.range_succ, List.map_append]
        congr 3
        · refine List.map_congr_left fun j hj => ?_
          rw [upd1_ne (Nat.ne_of_lt (List.mem_range.mp hj))]
        · show [V.ref x] = [V.ref (upd1 ra i x i)]
          rw [upd1_same]
      · have ndD : ∀ {r a z fr G}, RingAt CD CR H2 a z r fr G → (∀ b ∈ G, b ≠ D3) → RingAt CD CR (upd H2 D3 (.lst (((List.range i).map fun j => V.ref (ra j)) ++ [V.ref x]))) a z r fr G := fun {r a z fr G} R hg =>
          R.out (G := [D3]) (fun b q dx fs e => by
            rw [List.mem_singleton.mp q, h32] at e
            cases e) (fun b o e q => (upd_ne fun z => q (List.mem_singleton.mpr z)).trans e) fun b hb q => hg b hb (List.mem_singleton.mp q)
        by_cases e : j = i
        · subst e
          rw [upd1_same, upd1_same]
          exact ndD R2 fun b hb => (ne_of_none h3 (hFn b hb)).symm
        · rw [upd1_ne e, upd1_ne e]
          exact ndD ((hR j (by omega)).out (G := []) (fun b z => nomatch z) (fun b o e _ => s2 _ _ e) (fun b _ z => nomatch z)) fun b hb => (hFr j (by omega) b hb).2
      · by_cases e : j = i
        · subst e
          rw [upd1_same] at ha
          refine ⟨?_, (ne_of_none h3 (hFn a ha)).symm⟩
          cases q : upd HB c (.ins CC dx F4) a with
          | none => rfl
          | some o =>
            have := hFn a ha
            rw [hkp _ _ q] at this
            cases this
        · rw [upd1_ne e] at ha
          exact hFr j (by omega) a ha
      · have old : ∀ j, j < i → ∀ a ∈ Fr j, H' a ≠ none := fun j hj a ha z => by
          obtain ⟨dx', p, s, d, f, ps, ss, ds, eF, _, q1, q2, q3, q4, q5, _⟩ := hR j hj
          rw [eF] at ha
          simp only [List.mem_cons, List.not_mem_nil, or_false] at ha
          rcases ha with rfl | rfl | rfl | rfl | rfl
          · rw [q1] at z; cases z
          · rw [q2] at z; cases z
          · rw [q3] at z; cases z
          · rw [q4] at z; cases z
          · rw [q5] at z; cases z
        intro hb
        by_cases e1 : j1 = i
        · subst e1
          rw [upd1_same] at ha
          rw [upd1_ne (fun z => hne z.symm)] at hb
          exact old j2 (by omega) a hb (hFn a ha)
        · rw [upd1_ne e1] at ha
          by_cases e2 : j2 = i
          · subst e2
            rw [upd1_same] at hb
            exact old j1 (by omega) a ha (hFn a hb)
          · rw [upd1_ne e2] at hb
            exact hdj j1 j2 (by omega) (by omega) hne a ha hb
    rintro HC ⟨ra, Fr, hC3, hR, hFr, hdj, hkC⟩
    have hcC := hkC c _ upd_same
    have nD3 : c ≠ D3 := ne_of_none upd_same hD3
    refine ⟨_, rfl, c, CC, dx, _, rfl, hcC, T.cl, T.na _ (by decide +kernel), Nat.lt_of_le_of_lt lF4 (by decide), ?_⟩
    -- self.turn, self.frames_out, self.frames_sent, self.done_since
    refine ⟨_, rfl, c, CC, dx, _, rfl, upd_same, T.cl, T.na _ (by decide +kernel), Nat.lt_of_le_of_lt (Nat.le_trans put_len (Nat.succ_le_succ lF4)) (by decide), ?_⟩
    rw [upd_upd]
    refine ⟨Nat.zero_le _, fun D4 hD4 => ?_⟩
    have nD4 : c ≠ D4 := fun e => by rw [← e, upd_same] at hD4; cases hD4
    have hD4C : HC D4 = none := (upd_ne nD4.symm).symm.trans hD4
    refine ⟨_, rfl, c, CC, dx, _, rfl, (upd_ne nD4).trans upd_same, T.cl, T.na _ (by decide +kernel), Nat.lt_of_le_of_lt (Nat.le_trans put_len (Nat.succ_le_succ (Nat.le_trans put_len (Nat.succ_le_succ lF4)))) (by decide), ?_⟩
    refine ⟨_, rfl, c, CC, dx, _, rfl, upd_same, T.cl, T.na _ (by decide +kernel), Nat.lt_of_le_of_lt (Nat.le_trans put_len (Nat.succ_le_succ (Nat.le_trans put_len (Nat.succ_le_succ (Nat.le_trans put_len (Nat.succ_le_succ lF4)))))) (by decide), ?_⟩
    rw [upd_upd]
    refine ⟨_, rfl, c, CC, dx, _, rfl, upd_same, T.cl, T.na _ (by decide +kernel), Nat.lt_of_le_of_lt (Nat.le_trans put_len (Nat.succ_le_succ (Nat.le_trans put_len (Nat.succ_le_succ (Nat.le_trans put_len (Nat.succ_le_succ (Nat.le_trans put_len (Nat.succ_le_succ lF4)))))))) (by decide), ?_⟩
    rw [upd_upd]
    refine ⟨_, rfl, c, CC, dx, _, rfl, upd_same, T.cl, T.na _ (by decide +kernel), Nat.lt_of_le_of_lt (Nat.le_trans put_len (Nat.succ_le_succ (Nat.le_trans put_len (Nat.succ_le_succ (Nat.le_trans put_len (Nat.succ_le_succ (Nat.le_trans put_len (Nat.succ_le_succ (Nat.le_trans put_len (Nat.succ_le_succ lF4)))))))))) (by decide), ?_⟩
    rw [upd_upd]
    have eF : putF "frames_dropped" (V.int 0) (putF "frames_come" (V.int 0) (putF "frames_sent" (V.int 0) (putF "frames_out" (V.ref D4) (putF "turn" (V.int 0) (putF "rings" (V.ref D3) F4))))) = cF (m0 k.toNat m.toNat l.toNat) U D1 D2 D3 D4 := by
      rw [← eF4, ← eF3, ← eF2]
      have e1 : putF "cause" (V.ref U) [] = [("cause" : Str)].zip [V.ref U] := rfl
      rw [e1, put_zipNew (by decide +kernel) rfl, put_zipNew (by decide +kernel) rfl, put_zipNew (by decide +kernel) rfl, put_zipNew (by decide +kernel) rfl, put_zipNew (by decide +kernel) rfl, put_zipNew (by decide +kernel) rfl, put_zipNew (by decide +kernel) rfl, put_zipNew (by decide +kernel) rfl]
      rfl
    rw [eF]
    generalize eHf : upd (upd (upd HC c (.ins CC dx (putF "turn" (V.int 0) (putF "rings" (V.ref D3) F4)))) D4 (.lst [])) c (.ins CC dx (cF (m0 k.toNat m.toNat l.toNat) U D1 D2 D3 D4)) = Hf
    have kHA : ∀ b o, HU b = some o → b ≠ c → HA b = some o := fun b o e n => hkA b o ((upd_ne n).trans e)
    have kAB : ∀ b o, HA b = some o → b ≠ c → HB b = some o := fun b o e n => hkB b o ((upd_ne n).trans e)
    have kBC : ∀ b o, HB b = some o → b ≠ c → HC b = some o := fun b o e n => hkC b o ((upd_ne n).trans e)
    have kCf : ∀ b o, HC b = some o → b ≠ c → Hf b = some o := fun b o e n => by
      rw [← eHf, upd_ne n, upd_ne (ne_of_none e hD4C), upd_ne n]
      exact e
    have hf4 : Hf D4 = some (.lst []) := by rw [← eHf, upd_ne nD4.symm, upd_same]
    have hfc : Hf c = some (.ins CC dx (cF (m0 k.toNat m.toNat l.toNat) U D1 D2 D3 D4)) := by rw [← eHf, upd_same]
    -- who is who
    have hUA := kHA _ _ hU nUc
    have hUB := kAB _ _ hUA nUc
    have hUC := kBC _ _ hUB nUc
    have hUf := kCf _ _ hUC nUc
    have nU1 : U ≠ D1 := ne_of_none (H := upd HU c (.ins CC dx F2)) ((upd_ne nUc).trans hU) hD1
    have nU2 : U ≠ D2 := ne_of_none (H := upd HA c (.ins CC dx F3)) ((upd_ne nUc).trans hUA) hD2
    have nU3 : U ≠ D3 := ne_of_none (H := upd HB c (.ins CC dx F4)) ((upd_ne nUc).trans hUB) hD3
    have nU4 : U ≠ D4 := ne_of_none hUC hD4C
    have aU : ∀ a ∈ as, a ≠ U := fun a ha => (ne_of_none (H := upd HU c (.ins CC dx F2)) ((upd_ne nUc).trans hU) (has a ha).2.1).symm
    have rU : ∀ j, j < 5 → ∀ a ∈ Fr j, a ≠ U := fun j hj a ha => (ne_of_none (H := upd HB c (.ins CC dx F4)) ((upd_ne nUc).trans hUB) (hFr j hj a ha).1).symm
    have aC : ∀ a ∈ as, a ≠ c := fun a ha e => by
      have := (has a ha).2.1
      rw [e, upd_same] at this
      cases this
    have hB1 := kAB _ _ hA nD1.symm
    have hC1 := kBC _ _ hB1 nD1.symm
    have hC2 := kBC _ _ hB nD2.symm
    have haB : ∀ a ∈ as, BytesAt HB a (List.replicate 256 0) := fun a ha => kAB _ _ (has a ha).1 (aC a ha)
    have haC : ∀ a ∈ as, BytesAt HC a (List.replicate 256 0) := fun a ha => kBC _ _ (haB a ha) (aC a ha)
    have n12 : D1 ≠ D2 := ne_of_none (H := upd HA c (.ins CC dx F3)) ((upd_ne nD1.symm).trans hA) hD2
    have n13 : D1 ≠ D3 := ne_of_none (H := upd HB c (.ins CC dx F4)) ((upd_ne nD1.symm).trans hB1) hD3
    have n23 : D2 ≠ D3 := ne_of_none (H := upd HB c (.ins CC dx F4)) ((upd_ne nD2.symm).trans hB) hD3
    have n14 : D1 ≠ D4 := ne_of_none hC1 hD4C
    have n24 : D2 ≠ D4 := ne_of_none hC2 hD4C
    have n34 : D3 ≠ D4 := ne_of_none hC3 hD4C
    have a1 : ∀ a ∈ as, a ≠ D1 := fun a ha => (has a ha).2.2
    have a2 : ∀ a ∈ as, a ≠ D2 := fun a ha => ne_of_none (H := upd HA c (.ins CC dx F3)) ((upd_ne (aC a ha)).trans (has a ha).1) hD2
    have a3 : ∀ a ∈ as, a ≠ D3 := fun a ha => ne_of_none (H := upd HB c (.ins CC dx F4)) ((upd_ne (aC a ha)).trans (haB a ha)) hD3
    have a4 : ∀ a ∈ as, a ≠ D4 := fun a ha => ne_of_none (haC a ha) hD4C
    have rC : ∀ j, j < 5 → ∀ a ∈ Fr j, a ≠ c := fun j hj a ha => (ne_of_none (H := upd HB c (.ins CC dx F4)) upd_same (hFr j hj a ha).1).symm
    have r1 : ∀ j, j < 5 → ∀ a ∈ Fr j, a ≠ D1 := fun j hj a ha => (ne_of_none (H := upd HB c (.ins CC dx F4)) ((upd_ne nD1.symm).trans hB1) (hFr j hj a ha).1).symm
    have r2 : ∀ j, j < 5 → ∀ a ∈ Fr j, a ≠ D2 := fun j hj a ha => (ne_of_none (H := upd HB c (.ins CC dx F4)) ((upd_ne nD2.symm).trans hB) (hFr j hj a ha).1).symm
    have ras : ∀ j, j < 5 → ∀ a ∈ Fr j, a ∉ as := fun j hj a ha z => (ne_of_none (H := upd HB c (.ins CC dx F4)) ((upd_ne (aC a z)).trans (haB a z)) (hFr j hj a ha).1) rfl
    have live : ∀ j, j < 5 → ∀ a ∈ Fr j, ∃ o, HC a = some o ∧ Cell CD o := fun j hj a ha => by
      obtain ⟨dx', p, s, d, f, ps, ss, ds, eF, _, q1, q2, q3, q4, q5, _⟩ := hR j hj
      rw [eF] at ha
      simp only [List.mem_cons, List.not_mem_nil, or_false] at ha
      rcases ha with rfl | rfl | rfl | rfl | rfl
      · exact ⟨_, q1, T.R.ne⟩
      · exact ⟨_, q2, trivial⟩
      · exact ⟨_, q3, trivial⟩
      · exact ⟨_, q4, trivial⟩
      · exact ⟨_, q5, trivial⟩
    have r4 : ∀ j, j < 5 → ∀ a ∈ Fr j, a ≠ D4 := fun j hj a ha => by
      obtain ⟨o, ho, _⟩ := live j hj a ha
      exact ne_of_none ho hD4C
    let own : Owns := fun b => if b = c then some 0 else if b = D1 then some 1 else if b = D2 then some 2 else if b = D3 then some 3 else if b = D4 then some 4 else if b = U then some 7 else if b ∈ as then some 5 else
      if b ∈ Fr 0 then some 10 else if b ∈ Fr 1 then some 11 else if b ∈ Fr 2 then some 12 else if b ∈ Fr 3 then some 13 else if b ∈ Fr 4 then some 14 else none
    have ring_own : ∀ j, j < 5 → ∀ a ∈ Fr j, own a = some (10 + j) := fun j hj a ha => by
      show (if a = c then some 0 else _) = _
      rw [if_neg (rC j hj a ha), if_neg (r1 j hj a ha), if_neg (r2 j hj a ha), if_neg (hFr j hj a ha).2, if_neg (r4 j hj a ha), if_neg (rU j hj a ha), if_neg (ras j hj a ha)]
      have nj : ∀ j2, j2 < 5 → j ≠ j2 → a ∉ Fr j2 := fun j2 h2 hn => hdj j j2 hj h2 hn a ha
      match j, hj, ha, nj with
      | 0, _, ha, nj => rw [if_pos ha]
      | 1, _, ha, nj => rw [if_neg (nj 0 (by omega) (by omega)), if_pos ha]
      | 2, _, ha, nj => rw [if_neg (nj 0 (by omega) (by omega)), if_neg (nj 1 (by omega) (by omega)), if_pos ha]
      | 3, _, ha, nj => rw [if_neg (nj 0 (by omega) (by omega)), if_neg (nj 1 (by omega) (by omega)), if_neg (nj 2 (by omega) (by omega)), if_pos ha]
      | 4, _, ha, nj => rw [if_neg (nj 0 (by omega) (by omega)), if_neg (nj 1 (by omega) (by omega)), if_neg (nj 2 (by omega) (by omega)), if_neg (nj 3 (by omega) (by omega)), if_pos ha]
    have own_inv : ∀ b t, own b = some t → b = c ∨ b = D1 ∨ b = D2 ∨ b = D3 ∨ b = D4 ∨ b = U ∨ b ∈ as ∨ ∃ j, j < 5 ∧ b ∈ Fr j := fun b t e => by
      have e : (if b = c then some 0 else if b = D1 then some 1 else if b = D2 then some 2 else if b = D3 then some 3 else if b = D4 then some 4 else if b = U then some 7 else if b ∈ as then some 5 else
        if b ∈ Fr 0 then some 10 else if b ∈ Fr 1 then some 11 else if b ∈ Fr 2 then some 12 else if b ∈ Fr 3 then some 13 else if b ∈ Fr 4 then some 14 else none) = some t := e
      by_cases c1 : b = c
      · exact .inl c1
      by_cases c2 : b = D1
      · exact .inr (.inl c2)
      by_cases c3 : b = D2
      · exact .inr (.inr (.inl c3))
      by_cases c4 : b = D3
      · exact .inr (.inr (.inr (.inl c4)))
      by_cases c5 : b = D4
      · exact .inr (.inr (.inr (.inr (.inl c5))))
      by_cases c7 : b = U
      · exact .inr (.inr (.inr (.inr (.inr (.inl c7)))))
      by_cases c6 : b ∈ as
      · exact .inr (.inr (.inr (.inr (.inr (.inr (.inl c6))))))
      refine .inr (.inr (.inr (.inr (.inr (.inr (.inr ?_))))))
      rw [if_neg c1, if_neg c2, if_neg c3, if_neg c4, if_neg c5, if_neg c7, if_neg c6] at e
      by_cases d0 : b ∈ Fr 0
      · exact ⟨0, by omega, d0⟩
      by_cases d1 : b ∈ Fr 1
      · exact ⟨1, by omega, d1⟩
      by_cases d2 : b ∈ Fr 2
      · exact ⟨2, by omega, d2⟩
      by_cases d3 : b ∈ Fr 3
      · exact ⟨3, by omega, d3⟩
      by_cases d4 : b ∈ Fr 4
      · exact ⟨4, by omega, d4⟩
      rw [if_neg d0, if_neg d1, if_neg d2, if_neg d3, if_neg d4] at e
      cases e
    refine kont Hf own ⟨m0 k.toNat m.toNat l.toNat, ⟨⟨dx, U, udx, D1, D2, D3, D4, as, [], ra, Fr⟩, ?_⟩, m0_rel _ _ _, wf_made (by omega) (by omega) (by omega)⟩ (fun b o e n => kCf _ _ (kBC _ _ (kAB _ _ (kHA _ _ (sU _ _ e) n) n) n) n) (fun b z => ?_)
    · refine ⟨if_pos rfl, ?_, ?_, ?_, ?_, ?_, fun a ha => ?_, (fun a ha => nomatch ha), ring_own, fun b t e => ?_, hfc, hUf, kCf _ _ hC1 nD1.symm, ?_, ?_, kCf _ _ hC3 nD3.symm, hf4, .nil, fun j hj => ?_⟩
      · show (if D1 = c then some 0 else _) = _
        rw [if_neg nD1.symm, if_pos rfl]
      · show (if D2 = c then some 0 else _) = _
        rw [if_neg nD2.symm, if_neg n12.symm, if_pos rfl]
      · show (if D3 = c then some 0 else _) = _
        rw [if_neg nD3.symm, if_neg n13.symm, if_neg n23.symm, if_pos rfl]
      · show (if D4 = c then some 0 else _) = _
        rw [if_neg nD4.symm, if_neg n14.symm, if_neg n24.symm, if_neg n34.symm, if_pos rfl]
      · show (if U = c then some 0 else _) = _
        rw [if_neg nUc, if_neg nU1, if_neg nU2, if_neg nU3, if_neg nU4, if_pos rfl]
      · show (if a = c then some 0 else _) = _
        have ha : a ∈ as := ha
        rw [if_neg (aC a ha), if_neg (a1 a ha), if_neg (a2 a ha), if_neg (a3 a ha), if_neg (a4 a ha), if_neg (aU a ha), if_pos ha]
      · rcases own_inv b t e with e | e | e | e | e | e | e | ⟨j, hj, e⟩
        · rw [e]; exact ⟨_, hfc, T.ne⟩
        · rw [e]; exact ⟨_, kCf _ _ hC1 nD1.symm, trivial⟩
        · rw [e]; exact ⟨_, kCf _ _ hC2 nD2.symm, trivial⟩
        · rw [e]; exact ⟨_, kCf _ _ hC3 nD3.symm, trivial⟩
        · rw [e]; exact ⟨_, hf4, trivial⟩
        · rw [e]; exact ⟨_, hUf, T.U.ne⟩
        · exact ⟨_, kCf _ _ (haC b e) (aC b e), trivial⟩
        · obtain ⟨o, ho, hcell⟩ := live j hj b e
          exact ⟨o, kCf _ _ ho (rC j hj b e), hcell⟩
      · show Paired (BytesAt Hf) as (List.replicate 64 (List.replicate 256 0))
        rw [← hal]
        exact paired_rep fun a ha => kCf _ _ (haC a ha) (aC a ha)
      · exact kCf _ _ hC2 nD2.symm
      · refine (hR j hj).out (G := [c]) (fun b q dx' fs e => ?_) (fun b o e q => kCf _ _ e fun z => q (List.mem_singleton.mpr z)) fun b hb q => rC j hj b hb (List.mem_singleton.mp q)
        rw [List.mem_singleton.mp q, hcC] at e
        have e := Option.some.inj e
        injection e with e
        exact T.ne e
    · by_cases nc : b = c
      · exact .inl nc
      refine .inr ?_
      cases y : H b with
      | none => rfl
      | some o =>
        have yH := y
        have y := sU _ _ y
        have yA := kHA _ _ y nc
        have yB := kAB _ _ yA nc
        have yC := kBC _ _ yB nc
        have y0 : upd HU c (.ins CC dx F2) b = some o := (upd_ne nc).trans y
        cases q : own b with
        | none => exact absurd q z
        | some t =>
          rcases own_inv b t q with e | e | e | e | e | e | e | ⟨j, hj, e⟩
          · exact absurd e nc
          · rw [e, hD1] at y0; cases y0
          · have : upd HA c (.ins CC dx F3) b = some o := (upd_ne nc).trans yA
            rw [e, hD2] at this; cases this
          · have : upd HB c (.ins CC dx F4) b = some o := (upd_ne nc).trans yB
            rw [e, hD3] at this; cases this
          · rw [e, hD4C] at yC; cases yC
          · rw [e, nU] at yH; cases yH
          · rw [(has b e).2.1] at y0; cases y0
          · have : upd HB c (.ins CC dx F4) b = some o := (upd_ne nc).trans yB
            rw [(hFr j hj b e).1] at this; cases this
end
end Rg

namespace Rg
open PySem PySem.Spec PyProof.Rows L2
/-- a def of the text stands at f -/
def FnX (K : PySem.W.Frag) (x qual : Str) (st : Stmt) (f : Addr) : Prop := ∃ fd, Fun K x qual st f fd
theorem fnx {K : PySem.W.Frag} {x qual : Str} {st : Stmt} {f : Addr} {oc : Value} {od an : Option Addr} {osl : Array (Option Value)} {kV doc pm cdv ct : Value} (l : K.lookup f = some ⟨oc, od, .func (PySem.W.fnOf x qual (defArgs st) (defBody st) (defScope st) .none kV doc pm an cdv ct), osl⟩)
    (c : PySem.W.codeIn K cdv qual = true) (k : PySem.W.keepIn K (.ref f) = true) : FnX K x qual st f := ⟨_, fun_mk l c k⟩
structure ClX (K : PySem.W.Frag) (C : Addr) : Prop where
  pg : PySem.W.plainGet K C Str.empty = true
  hd : PySem.W.hasDictIn K C = true
  po : PySem.W.plainOver K C = true
  sa : PySem.W.findIn K (.ref C) "__setattr__" = some (some (.builtin "object.__setattr__"))
  mks : PySem.W.makesIn K C = true
  kc : PySem.W.keepIn K (.ref C) = true
structure MtX (K : PySem.W.Frag) (C : Addr) (m : Str) (f : Addr) : Prop where
  a : PySem.W.findIn K (.ref C) m = some (some (.ref f))
  i : PySem.W.isFn K (.ref f) = true
/-! ### written data -/
def intKeysB : List DictEntry → Bool
  | [] => true
  | e :: r => (match e.key with | .int i _ => e.hash == hashInt i | _ => false) && intKeysB r
theorem intKeys_of : ∀ {l : List DictEntry}, intKeysB l = true → IntKeys l
  | [], _ => trivial
  | e :: r, h => by
    have h : ((match e.key with | .int i _ => e.hash == hashInt i | _ => false) && intKeysB r) = true := h
    rw [Bool.and_eq_true] at h
    refine ⟨?_, intKeys_of h.2⟩
    have h1 := h.1
    split at h1
    · rename_i i t e1
      exact ⟨i, t, e1, eq_of_beq h1⟩
    · cases h1
theorem kdi_mk {K : PySem.W.Frag} {a : Addr} {es : Array DictEntry} {n : Nat} {i : Int} {u : Addr} (l : K.lookup a = some ⟨.type "dict", none, .dict es n, #[]⟩) (hk : intKeysB es.toList = true) (hf : findBy Value.isInt es i = some (.ref u)) : KDI K a i (.ref u) :=
  ⟨es, n, _, l, intKeys_of hk, hf, rfl⟩
theorem wpair_mk {K : PySem.W.Frag} {a : Addr} {oc : Option Addr} {n : Nat} {sl : Array (Option Value)} {lo hi : Int} {t u : Tok} (l : K.lookup a = some ⟨.type "tuple", oc, .seq #[.int lo t, .int hi u] n, sl⟩) : WPair K (.ref a) (lo, hi) :=
  ⟨a, rfl, fun H => .inr ⟨_, _, n, l, rfl, rfl, (by show 2 ≤ sizeLine; decide), .cons ⟨_, rfl⟩ (.cons ⟨_, rfl⟩ .nil)⟩⟩
theorem wr0 {K : PySem.W.Frag} {a : Addr} {oc : Option Addr} {n : Nat} {sl : Array (Option Value)} (l : K.lookup a = some ⟨.type "tuple", oc, .seq #[] n, sl⟩) : WRanges K (.ref a) [] :=
  ⟨a, [], rfl, fun H => .inr ⟨_, _, n, l, rfl, rfl, (by show 0 ≤ sizeLine; decide), .nil⟩, .nil⟩
theorem wr1 {K : PySem.W.Frag} {a a1 : Addr} {oc : Option Addr} {n : Nat} {sl : Array (Option Value)} {r1 : Int × Int} (l : K.lookup a = some ⟨.type "tuple", oc, .seq #[.ref a1] n, sl⟩) (p1 : WPair K (.ref a1) r1) : WRanges K (.ref a) [r1] :=
  ⟨a, [.ref a1], rfl, fun H => .inr ⟨_, _, n, l, rfl, rfl, (by show 1 ≤ sizeLine; decide), .cons rfl .nil⟩, .cons p1 .nil⟩
theorem wr2 {K : PySem.W.Frag} {a a1 a2 : Addr} {oc : Option Addr} {n : Nat} {sl : Array (Option Value)} {r1 r2 : Int × Int} (l : K.lookup a = some ⟨.type "tuple", oc, .seq #[.ref a1, .ref a2] n, sl⟩) (p1 : WPair K (.ref a1) r1) (p2 : WPair K (.ref a2) r2) : WRanges K (.ref a) [r1, r2] :=
  ⟨a, [.ref a1, .ref a2], rfl, fun H => .inr ⟨_, _, n, l, rfl, rfl, (by show 2 ≤ sizeLine; decide), .cons rfl (.cons rfl .nil)⟩, .cons p1 (.cons p2 .nil)⟩
theorem wr3 {K : PySem.W.Frag} {a a1 a2 a3 : Addr} {oc : Option Addr} {n : Nat} {sl : Array (Option Value)} {r1 r2 r3 : Int × Int} (l : K.lookup a = some ⟨.type "tuple", oc, .seq #[.ref a1, .ref a2, .ref a3] n, sl⟩) (p1 : WPair K (.ref a1) r1) (p2 : WPair K (.ref a2) r2) (p3 : WPair K (.ref a3) r3) : WRanges K (.ref a) [r1, r2, r3] :=
  ⟨a, [.ref a1, .ref a2, .ref a3], rfl, fun H => .inr ⟨_, _, n, l, rfl, rfl, (by show 3 ≤ sizeLine; decide), .cons rfl (.cons rfl (.cons rfl .nil))⟩, .cons p1 (.cons p2 (.cons p3 .nil))⟩
theorem wr4 {K : PySem.W.Frag} {a a1 a2 a3 a4 : Addr} {oc : Option Addr} {n : Nat} {sl : Array (Option Value)} {r1 r2 r3 r4 : Int × Int} (l : K.lookup a = some ⟨.type "tuple", oc, .seq #[.ref a1, .ref a2, .ref a3, .ref a4] n, sl⟩) (p1 : WPair K (.ref a1) r1) (p2 : WPair K (.ref a2) r2) (p3 : WPair K (.ref a3) r3) (p4 : WPair K (.ref a4) r4) : WRanges K (.ref a) [r1, r2, r3, r4] :=
  ⟨a, [.ref a1, .ref a2, .ref a3, .ref a4], rfl, fun H => .inr ⟨_, _, n, l, rfl, rfl, (by show 4 ≤ sizeLine; decide), .cons rfl (.cons rfl (.cons rfl (.cons rfl .nil)))⟩, .cons p1 (.cons p2 (.cons p3 (.cons p4 .nil)))⟩
/-! ### how arguments bind -/
theorem bd_uI {K : PySem.W.Frag} {f : Addr} {fd : FuncData} (F : Fun K "__init__" "Cause.__init__" sUInit f fd) : Binds K fd ["self", "many", "late"] [] := F.binds (ps := ["self", "many", "late"]) fun _ _ _ _ _ _ us hl => match us, hl with | [_, _, _], _ => rfl
theorem bd_uC {K : PySem.W.Frag} {f : Addr} {fd : FuncData} (F : Fun K "count_done" "Cause.count_done" sUCount f fd) : Binds K fd ["self"] [] := F.binds (ps := ["self"]) fun _ _ _ _ _ _ us hl => match us, hl with | [_], _ => rfl
theorem bd_uT {K : PySem.W.Frag} {f : Addr} {fd : FuncData} (F : Fun K "pass_ticks" "Cause.pass_ticks" sUTicks f fd) : Binds K fd ["self", "ticks"] [] := F.binds (ps := ["self", "ticks"]) fun _ _ _ _ _ _ us hl => match us, hl with | [_, _], _ => rfl
theorem bd_uG {K : PySem.W.Frag} {f : Addr} {fd : FuncData} (F : Fun K "is_given" "Cause.is_given" sUGiven f fd) : Binds K fd ["self"] [] := F.binds (ps := ["self"]) fun _ _ _ _ _ _ us hl => match us, hl with | [_], _ => rfl
theorem bd_uA {K : PySem.W.Frag} {f : Addr} {fd : FuncData} (F : Fun K "begin_anew" "Cause.begin_anew" sUAnew f fd) : Binds K fd ["self"] [] := F.binds (ps := ["self"]) fun _ _ _ _ _ _ us hl => match us, hl with | [_], _ => rfl
theorem bd_xM {K : PySem.W.Frag} {f : Addr} {fd : FuncData} (F : Fun K "one_more" "one_more" sMore f fd) : Binds K fd ["count"] [] := F.binds (ps := ["count"]) fun _ _ _ _ _ _ us hl => match us, hl with | [_], _ => rfl
theorem bd_xP {K : PySem.W.Frag} {f : Addr} {fd : FuncData} (F : Fun K "in_pieces" "in_pieces" sPieces f fd) : Binds K fd ["data"] [] := F.binds (ps := ["data"]) fun _ _ _ _ _ _ us hl => match us, hl with | [_], _ => rfl
theorem bd_dI {K : PySem.W.Frag} {f : Addr} {fd : FuncData} (F : Fun K "__init__" "Descriptor.__init__" sDesc f fd) : Binds K fd ["self", "buffer", "length", "last"] [] := F.binds (ps := ["self", "buffer", "length", "last"]) fun _ _ _ _ _ _ us hl => match us, hl with | [_, _, _, _], _ => rfl
theorem bd_rI {K : PySem.W.Frag} {f : Addr} {fd : FuncData} (F : Fun K "__init__" "Ring.__init__" sRInit f fd) : Binds K fd ["self", "places"] [] := F.binds (ps := ["self", "places"]) fun _ _ _ _ _ _ us hl => match us, hl with | [_, _], _ => rfl
theorem bd_rU {K : PySem.W.Frag} {f : Addr} {fd : FuncData} (F : Fun K "used" "Ring.used" sRUsed f fd) : Binds K fd ["self"] [] := F.binds (ps := ["self"]) fun _ _ _ _ _ _ us hl => match us, hl with | [_], _ => rfl
theorem bd_rF {K : PySem.W.Frag} {f : Addr} {fd : FuncData} (F : Fun K "is_full" "Ring.is_full" sRFull f fd) : Binds K fd ["self"] [] := F.binds (ps := ["self"]) fun _ _ _ _ _ _ us hl => match us, hl with | [_], _ => rfl
theorem bd_rS {K : PySem.W.Frag} {f : Addr} {fd : FuncData} (F : Fun K "show_posted" "Ring.show_posted" sRShow f fd) : Binds K fd ["self"] [] := F.binds (ps := ["self"]) fun _ _ _ _ _ _ us hl => match us, hl with | [_], _ => rfl
theorem bd_rN {K : PySem.W.Frag} {f : Addr} {fd : FuncData} (F : Fun K "mark_first_done" "Ring.mark_first_done" sRFin f fd) : Binds K fd ["self"] [] := F.binds (ps := ["self"]) fun _ _ _ _ _ _ us hl => match us, hl with | [_], _ => rfl
theorem bd_rX {K : PySem.W.Frag} {f : Addr} {fd : FuncData} (F : Fun K "take_first_done" "Ring.take_first_done" sRTakeF f fd) : Binds K fd ["self"] [] := F.binds (ps := ["self"]) fun _ _ _ _ _ _ us hl => match us, hl with | [_], _ => rfl
theorem bd_rT {K : PySem.W.Frag} {f : Addr} {fd : FuncData} (F : Fun K "take_done" "Ring.take_done" sRTake f fd) : Binds K fd ["self"] [] := F.binds (ps := ["self"]) fun _ _ _ _ _ _ us hl => match us, hl with | [_], _ => rfl
theorem bd_rJ {K : PySem.W.Frag} {f : Addr} {fd : FuncData} (F : Fun K "join_frame" "Ring.join_frame" sRJoin f fd) : Binds K fd ["self", "data"] [] := F.binds (ps := ["self", "data"]) fun _ _ _ _ _ _ us hl => match us, hl with | [_, _], _ => rfl
theorem bd_rE {K : PySem.W.Frag} {f : Addr} {fd : FuncData} (F : Fun K "end_frame" "Ring.end_frame" sREnd f fd) : Binds K fd ["self"] [] := F.binds (ps := ["self"]) fun _ _ _ _ _ _ us hl => match us, hl with | [_], _ => rfl
theorem bd_cI {K : PySem.W.Frag} {f : Addr} {fd : FuncData} (F : Fun K "__init__" "Card.__init__" sCInit f fd) : Binds K fd ["self", "k", "many", "late"] [] := F.binds (ps := ["self", "k", "many", "late"]) fun _ _ _ _ _ _ us hl => match us, hl with | [_, _, _, _], _ => rfl
theorem bd_cW {K : PySem.W.Frag} {f : Addr} {fd : FuncData} (F : Fun K "write" "Card.write" sCWrite f fd) : Binds K fd ["self", "buffer", "data"] [] := F.binds (ps := ["self", "buffer", "data"]) fun _ _ _ _ _ _ us hl => match us, hl with | [_, _, _], _ => rfl
theorem bd_cP {K : PySem.W.Frag} {f : Addr} {fd : FuncData} (F : Fun K "post" "Card.post" sCPost f fd) : Binds K fd ["self", "ring", "descriptor"] [] := F.binds (ps := ["self", "ring", "descriptor"]) fun _ _ _ _ _ _ us hl => match us, hl with | [_, _, _], _ => rfl
theorem bd_cR {K : PySem.W.Frag} {f : Addr} {fd : FuncData} (F : Fun K "reap" "Card.reap" sCReap f fd) : Binds K fd ["self", "ring"] [] := F.binds (ps := ["self", "ring"]) fun _ _ _ _ _ _ us hl => match us, hl with | [_, _], _ => rfl
theorem bd_cK {K : PySem.W.Frag} {f : Addr} {fd : FuncData} (F : Fun K "work" "Card.work" sCWork f fd) : Binds K fd ["self", "most"] [] := F.binds (ps := ["self", "most"]) fun _ _ _ _ _ _ us hl => match us, hl with | [_, _], _ => rfl
theorem bd_cS {K : PySem.W.Frag} {f : Addr} {fd : FuncData} (F : Fun K "step" "Card.step" sCStep f fd) : Binds K fd ["self"] [] := F.binds (ps := ["self"]) fun _ _ _ _ _ _ us hl => match us, hl with | [_], _ => rfl
theorem bd_cV {K : PySem.W.Frag} {f : Addr} {fd : FuncData} (F : Fun K "ring_to_serve" "Card.ring_to_serve" sCServe f fd) : Binds K fd ["self"] [] := F.binds (ps := ["self"]) fun _ _ _ _ _ _ us hl => match us, hl with | [_], _ => rfl
theorem bd_cN {K : PySem.W.Frag} {f : Addr} {fd : FuncData} (F : Fun K "send_first" "Card.send_first" sCSend f fd) : Binds K fd ["self", "ring", "descriptor"] [] := F.binds (ps := ["self", "ring", "descriptor"]) fun _ _ _ _ _ _ us hl => match us, hl with | [_, _, _], _ => rfl
theorem bd_cT {K : PySem.W.Frag} {f : Addr} {fd : FuncData} (F : Fun K "take_lent" "Card.take_lent" sCTakeL f fd) : Binds K fd ["self"] [] := F.binds (ps := ["self"]) fun _ _ _ _ _ _ us hl => match us, hl with | [_], _ => rfl
theorem bd_cF {K : PySem.W.Frag} {f : Addr} {fd : FuncData} (F : Fun K "finish_first" "Card.finish_first" sCFin f fd) : Binds K fd ["self", "ring"] [] := F.binds (ps := ["self", "ring"]) fun _ _ _ _ _ _ us hl => match us, hl with | [_, _], _ => rfl
theorem bd_cG {K : PySem.W.Frag} {f : Addr} {fd : FuncData} (F : Fun K "receive" "Card.receive" sCRecv f fd) : Binds K fd ["self", "data"] [] := F.binds (ps := ["self", "data"]) fun _ _ _ _ _ _ us hl => match us, hl with | [_, _], _ => rfl
theorem bd_cL {K : PySem.W.Frag} {f : Addr} {fd : FuncData} (F : Fun K "fill_first" "Card.fill_first" sCFill f fd) : Binds K fd ["self", "piece", "last"] [] := F.binds (ps := ["self", "piece", "last"]) fun _ _ _ _ _ _ us hl => match us, hl with | [_, _, _], _ => rfl
theorem bd_kI {K : PySem.W.Frag} {f : Addr} {fd : FuncData} (F : Fun K "__init__" "Desk.__init__" sDInit f fd) : Binds K fd ["self"] [] := F.binds (ps := ["self"]) fun _ _ _ _ _ _ us hl => match us, hl with | [_], _ => rfl
theorem bd_kA {K : PySem.W.Frag} {f : Addr} {fd : FuncData} (F : Fun K "answer" "Desk.answer" sDAns f fd) : Binds K fd ["self", "call", "numbers"] [] := F.binds (ps := ["self", "call", "numbers"]) fun _ _ _ _ _ _ us hl => match us, hl with | [_, _, _], _ => rfl
theorem bd_tT {K : PySem.W.Frag} {f : Addr} {fd : FuncData} (F : Fun K "are_as_told" "are_as_told" sTold f fd) : Binds K fd ["call", "numbers"] [] := F.binds (ps := ["call", "numbers"]) fun _ _ _ _ _ _ us hl => match us, hl with | [_, _], _ => rfl
theorem bd_o2 {K : PySem.W.Frag} {f : Addr} {fd : FuncData} (F : Fun K "answer_write" "answer_write" sOWrite f fd) : Binds K fd ["card", "numbers"] [] := F.binds (ps := ["card", "numbers"]) fun _ _ _ _ _ _ us hl => match us, hl with | [_, _], _ => rfl
theorem bd_o3 {K : PySem.W.Frag} {f : Addr} {fd : FuncData} (F : Fun K "answer_read" "answer_read" sORead f fd) : Binds K fd ["card", "numbers"] [] := F.binds (ps := ["card", "numbers"]) fun _ _ _ _ _ _ us hl => match us, hl with | [_, _], _ => rfl
theorem bd_o4 {K : PySem.W.Frag} {f : Addr} {fd : FuncData} (F : Fun K "answer_post" "answer_post" sOPost f fd) : Binds K fd ["card", "numbers"] [] := F.binds (ps := ["card", "numbers"]) fun _ _ _ _ _ _ us hl => match us, hl with | [_, _], _ => rfl
theorem bd_o5 {K : PySem.W.Frag} {f : Addr} {fd : FuncData} (F : Fun K "answer_door" "answer_door" sODoor f fd) : Binds K fd ["card", "numbers"] [] := F.binds (ps := ["card", "numbers"]) fun _ _ _ _ _ _ us hl => match us, hl with | [_, _], _ => rfl
theorem bd_o6 {K : PySem.W.Frag} {f : Addr} {fd : FuncData} (F : Fun K "answer_work" "answer_work" sOWork f fd) : Binds K fd ["card", "numbers"] [] := F.binds (ps := ["card", "numbers"]) fun _ _ _ _ _ _ us hl => match us, hl with | [_, _], _ => rfl
theorem bd_o7 {K : PySem.W.Frag} {f : Addr} {fd : FuncData} (F : Fun K "answer_reap" "answer_reap" sOReap f fd) : Binds K fd ["card", "numbers"] [] := F.binds (ps := ["card", "numbers"]) fun _ _ _ _ _ _ us hl => match us, hl with | [_, _], _ => rfl
theorem bd_o8 {K : PySem.W.Frag} {f : Addr} {fd : FuncData} (F : Fun K "answer_out" "answer_out" sOOut f fd) : Binds K fd ["card", "numbers"] [] := F.binds (ps := ["card", "numbers"]) fun _ _ _ _ _ _ us hl => match us, hl with | [_, _], _ => rfl
theorem bd_yY {K : PySem.W.Frag} {f : Addr} {fd : FuncData} (F : Fun K "yes_or_no" "yes_or_no" sYes f fd) : Binds K fd ["truth"] [] := F.binds (ps := ["truth"]) fun _ _ _ _ _ _ us hl => match us, hl with | [_], _ => rfl
theorem bd_yO {K : PySem.W.Frag} {f : Addr} {fd : FuncData} (F : Fun K "told_of" "told_of" sToldOf f fd) : Binds K fd ["descriptor"] [] := F.binds (ps := ["descriptor"]) fun _ _ _ _ _ _ us hl => match us, hl with | [_], _ => rfl
theorem bd_oP {K : PySem.W.Frag} {f : Addr} {fd : FuncData} (F : Fun K "answer_posted" "answer_posted" sOPosted f fd) : Binds K fd ["card", "ring", "descriptor"] [] := F.binds (ps := ["card", "ring", "descriptor"]) fun _ _ _ _ _ _ us hl => match us, hl with | [_, _, _], _ => rfl
theorem bd_o9 {K : PySem.W.Frag} {f : Addr} {fd : FuncData} (F : Fun K "answer_lend" "answer_lend" sOLend f fd) : Binds K fd ["card", "numbers"] [] := F.binds (ps := ["card", "numbers"]) fun _ _ _ _ _ _ us hl => match us, hl with | [_, _], _ => rfl
theorem bd_o10 {K : PySem.W.Frag} {f : Addr} {fd : FuncData} (F : Fun K "answer_wire" "answer_wire" sOWire f fd) : Binds K fd ["card", "numbers"] [] := F.binds (ps := ["card", "numbers"]) fun _ _ _ _ _ _ us hl => match us, hl with | [_, _], _ => rfl
theorem bd_o11 {K : PySem.W.Frag} {f : Addr} {fd : FuncData} (F : Fun K "answer_take" "answer_take" sOTake f fd) : Binds K fd ["card", "numbers"] [] := F.binds (ps := ["card", "numbers"]) fun _ _ _ _ _ _ us hl => match us, hl with | [_, _], _ => rfl
theorem bd_o12 {K : PySem.W.Frag} {f : Addr} {fd : FuncData} (F : Fun K "answer_tick" "answer_tick" sOTick f fd) : Binds K fd ["card", "numbers"] [] := F.binds (ps := ["card", "numbers"]) fun _ _ _ _ _ _ us hl => match us, hl with | [_, _], _ => rfl
theorem bd_o13 {K : PySem.W.Frag} {f : Addr} {fd : FuncData} (F : Fun K "answer_cause" "answer_cause" sOCause f fd) : Binds K fd ["card", "numbers"] [] := F.binds (ps := ["card", "numbers"]) fun _ _ _ _ _ _ us hl => match us, hl with | [_, _], _ => rfl
theorem bd_o14 {K : PySem.W.Frag} {f : Addr} {fd : FuncData} (F : Fun K "answer_state" "answer_state" sOState f fd) : Binds K fd ["card", "numbers"] [] := F.binds (ps := ["card", "numbers"]) fun _ _ _ _ _ _ us hl => match us, hl with | [_, _], _ => rfl
theorem bd_o15 {K : PySem.W.Frag} {f : Addr} {fd : FuncData} (F : Fun K "answer_counts" "answer_counts" sOCounts f fd) : Binds K fd ["card", "numbers"] [] := F.binds (ps := ["card", "numbers"]) fun _ _ _ _ _ _ us hl => match us, hl with | [_, _], _ => rfl
theorem bd_aA {K : PySem.W.Frag} {f : Addr} {fd : FuncData} (F : Fun K "answers" "answers" sAnswers f fd) : Binds K fd ["calls"] [] := F.binds (ps := ["calls"]) fun _ _ _ _ _ _ us hl => match us, hl with | [_], _ => rfl
/-! ### all that the top has written -/
theorem all_mk {P : Program} {w : World} {K : PySem.W.Frag} {h : Heap} {mg : Str → Option Value} {fa CD CR CC CU CK aR aC : Addr} {f_uI f_uC f_uT f_uG f_uA f_xM f_xP f_dI f_rI f_rU f_rF f_rS f_rN f_rX f_rT f_rJ f_rE f_cI f_cW f_cP f_cR f_cK f_cS f_cV f_cN f_cT f_cF f_cG f_cL f_kI f_kA f_tT f_o2 f_o3 f_o4 f_o5 f_o6 f_o7 f_o8 f_yY f_yO f_oP f_o9 f_o10 f_o11 f_o12 f_o13 f_o14 f_o15 f_aA : Addr} {t_0 t_1 t_2 t_3 t_4 t_5 t_6 t_7 t_8 t_9 t_10 t_11 t_12 t_13 t_14 : Tok} (X : K.In h) (G : h.Ns mainGlobals mg) (hfa : mg "answers" = some (.ref fa))
    (g_CD : PySem.W.nsIn K mainGlobals "Descriptor" = some (some (.ref CD)))
    (x_CD : ClX K CD)
    (n_CD_buffer : PySem.W.findIn K (.ref CD) "buffer" = some none)
    (n_CD_length : PySem.W.findIn K (.ref CD) "length" = some none)
    (n_CD_last : PySem.W.findIn K (.ref CD) "last" = some none)
    (g_CR : PySem.W.nsIn K mainGlobals "Ring" = some (some (.ref CR)))
    (x_CR : ClX K CR)
    (n_CR_places : PySem.W.findIn K (.ref CR) "places" = some none)
    (n_CR_posted : PySem.W.findIn K (.ref CR) "posted" = some none)
    (n_CR_seen : PySem.W.findIn K (.ref CR) "seen" = some none)
    (n_CR_done : PySem.W.findIn K (.ref CR) "done" = some none)
    (n_CR_frame : PySem.W.findIn K (.ref CR) "frame" = some none)
    (g_CC : PySem.W.nsIn K mainGlobals "Card" = some (some (.ref CC)))
    (x_CC : ClX K CC)
    (n_CC_cause : PySem.W.findIn K (.ref CC) "cause" = some none)
    (n_CC_buffers : PySem.W.findIn K (.ref CC) "buffers" = some none)
    (n_CC_with_machine : PySem.W.findIn K (.ref CC) "with_machine" = some none)
    (n_CC_rings : PySem.W.findIn K (.ref CC) "rings" = some none)
    (n_CC_turn : PySem.W.findIn K (.ref CC) "turn" = some none)
    (n_CC_frames_out : PySem.W.findIn K (.ref CC) "frames_out" = some none)
    (n_CC_frames_sent : PySem.W.findIn K (.ref CC) "frames_sent" = some none)
    (n_CC_frames_come : PySem.W.findIn K (.ref CC) "frames_come" = some none)
    (n_CC_frames_dropped : PySem.W.findIn K (.ref CC) "frames_dropped" = some none)
    (g_CU : PySem.W.nsIn K mainGlobals "Cause" = some (some (.ref CU)))
    (x_CU : ClX K CU)
    (n_CU_many : PySem.W.findIn K (.ref CU) "many" = some none)
    (n_CU_late : PySem.W.findIn K (.ref CU) "late" = some none)
    (n_CU_done_since : PySem.W.findIn K (.ref CU) "done_since" = some none)
    (n_CU_ticks_waited : PySem.W.findIn K (.ref CU) "ticks_waited" = some none)
    (g_CK : PySem.W.nsIn K mainGlobals "Desk" = some (some (.ref CK)))
    (x_CK : ClX K CK)
    (n_CK_card : PySem.W.findIn K (.ref CK) "card" = some none)
    (m_uI : MtX K CU "__init__" f_uI)
    (x_uI : FnX K "__init__" "Cause.__init__" sUInit f_uI)
    (m_uC : MtX K CU "count_done" f_uC)
    (x_uC : FnX K "count_done" "Cause.count_done" sUCount f_uC)
    (m_uT : MtX K CU "pass_ticks" f_uT)
    (x_uT : FnX K "pass_ticks" "Cause.pass_ticks" sUTicks f_uT)
    (m_uG : MtX K CU "is_given" f_uG)
    (x_uG : FnX K "is_given" "Cause.is_given" sUGiven f_uG)
    (m_uA : MtX K CU "begin_anew" f_uA)
    (x_uA : FnX K "begin_anew" "Cause.begin_anew" sUAnew f_uA)
    (g_xM : PySem.W.nsIn K mainGlobals "one_more" = some (some (.ref f_xM)))
    (x_xM : FnX K "one_more" "one_more" sMore f_xM)
    (g_xP : PySem.W.nsIn K mainGlobals "in_pieces" = some (some (.ref f_xP)))
    (x_xP : FnX K "in_pieces" "in_pieces" sPieces f_xP)
    (m_dI : MtX K CD "__init__" f_dI)
    (x_dI : FnX K "__init__" "Descriptor.__init__" sDesc f_dI)
    (m_rI : MtX K CR "__init__" f_rI)
    (x_rI : FnX K "__init__" "Ring.__init__" sRInit f_rI)
    (m_rU : MtX K CR "used" f_rU)
    (x_rU : FnX K "used" "Ring.used" sRUsed f_rU)
    (m_rF : MtX K CR "is_full" f_rF)
    (x_rF : FnX K "is_full" "Ring.is_full" sRFull f_rF)
    (m_rS : MtX K CR "show_posted" f_rS)
    (x_rS : FnX K "show_posted" "Ring.show_posted" sRShow f_rS)
    (m_rN : MtX K CR "mark_first_done" f_rN)
    (x_rN : FnX K "mark_first_done" "Ring.mark_first_done" sRFin f_rN)
    (m_rX : MtX K CR "take_first_done" f_rX)
    (x_rX : FnX K "take_first_done" "Ring.take_first_done" sRTakeF f_rX)
    (m_rT : MtX K CR "take_done" f_rT)
    (x_rT : FnX K "take_done" "Ring.take_done" sRTake f_rT)
    (m_rJ : MtX K CR "join_frame" f_rJ)
    (x_rJ : FnX K "join_frame" "Ring.join_frame" sRJoin f_rJ)
    (m_rE : MtX K CR "end_frame" f_rE)
    (x_rE : FnX K "end_frame" "Ring.end_frame" sREnd f_rE)
    (m_cI : MtX K CC "__init__" f_cI)
    (x_cI : FnX K "__init__" "Card.__init__" sCInit f_cI)
    (m_cW : MtX K CC "write" f_cW)
    (x_cW : FnX K "write" "Card.write" sCWrite f_cW)
    (m_cP : MtX K CC "post" f_cP)
    (x_cP : FnX K "post" "Card.post" sCPost f_cP)
    (m_cR : MtX K CC "reap" f_cR)
    (x_cR : FnX K "reap" "Card.reap" sCReap f_cR)
    (m_cK : MtX K CC "work" f_cK)
    (x_cK : FnX K "work" "Card.work" sCWork f_cK)
    (m_cS : MtX K CC "step" f_cS)
    (x_cS : FnX K "step" "Card.step" sCStep f_cS)
    (m_cV : MtX K CC "ring_to_serve" f_cV)
    (x_cV : FnX K "ring_to_serve" "Card.ring_to_serve" sCServe f_cV)
    (m_cN : MtX K CC "send_first" f_cN)
    (x_cN : FnX K "send_first" "Card.send_first" sCSend f_cN)
    (m_cT : MtX K CC "take_lent" f_cT)
    (x_cT : FnX K "take_lent" "Card.take_lent" sCTakeL f_cT)
    (m_cF : MtX K CC "finish_first" f_cF)
    (x_cF : FnX K "finish_first" "Card.finish_first" sCFin f_cF)
    (m_cG : MtX K CC "receive" f_cG)
    (x_cG : FnX K "receive" "Card.receive" sCRecv f_cG)
    (m_cL : MtX K CC "fill_first" f_cL)
    (x_cL : FnX K "fill_first" "Card.fill_first" sCFill f_cL)
    (m_kI : MtX K CK "__init__" f_kI)
    (x_kI : FnX K "__init__" "Desk.__init__" sDInit f_kI)
    (m_kA : MtX K CK "answer" f_kA)
    (x_kA : FnX K "answer" "Desk.answer" sDAns f_kA)
    (g_tT : PySem.W.nsIn K mainGlobals "are_as_told" = some (some (.ref f_tT)))
    (x_tT : FnX K "are_as_told" "are_as_told" sTold f_tT)
    (g_o2 : PySem.W.nsIn K mainGlobals "answer_write" = some (some (.ref f_o2)))
    (x_o2 : FnX K "answer_write" "answer_write" sOWrite f_o2)
    (g_o3 : PySem.W.nsIn K mainGlobals "answer_read" = some (some (.ref f_o3)))
    (x_o3 : FnX K "answer_read" "answer_read" sORead f_o3)
    (g_o4 : PySem.W.nsIn K mainGlobals "answer_post" = some (some (.ref f_o4)))
    (x_o4 : FnX K "answer_post" "answer_post" sOPost f_o4)
    (g_o5 : PySem.W.nsIn K mainGlobals "answer_door" = some (some (.ref f_o5)))
    (x_o5 : FnX K "answer_door" "answer_door" sODoor f_o5)
    (g_o6 : PySem.W.nsIn K mainGlobals "answer_work" = some (some (.ref f_o6)))
    (x_o6 : FnX K "answer_work" "answer_work" sOWork f_o6)
    (g_o7 : PySem.W.nsIn K mainGlobals "answer_reap" = some (some (.ref f_o7)))
    (x_o7 : FnX K "answer_reap" "answer_reap" sOReap f_o7)
    (g_o8 : PySem.W.nsIn K mainGlobals "answer_out" = some (some (.ref f_o8)))
    (x_o8 : FnX K "answer_out" "answer_out" sOOut f_o8)
    (g_yY : PySem.W.nsIn K mainGlobals "yes_or_no" = some (some (.ref f_yY)))
    (x_yY : FnX K "yes_or_no" "yes_or_no" sYes f_yY)
    (g_yO : PySem.W.nsIn K mainGlobals "told_of" = some (some (.ref f_yO)))
    (x_yO : FnX K "told_of" "told_of" sToldOf f_yO)
    (g_oP : PySem.W.nsIn K mainGlobals "answer_posted" = some (some (.ref f_oP)))
    (x_oP : FnX K "answer_posted" "answer_posted" sOPosted f_oP)
    (g_o9 : PySem.W.nsIn K mainGlobals "answer_lend" = some (some (.ref f_o9)))
    (x_o9 : FnX K "answer_lend" "answer_lend" sOLend f_o9)
    (g_o10 : PySem.W.nsIn K mainGlobals "answer_wire" = some (some (.ref f_o10)))
    (x_o10 : FnX K "answer_wire" "answer_wire" sOWire f_o10)
    (g_o11 : PySem.W.nsIn K mainGlobals "answer_take" = some (some (.ref f_o11)))
    (x_o11 : FnX K "answer_take" "answer_take" sOTake f_o11)
    (g_o12 : PySem.W.nsIn K mainGlobals "answer_tick" = some (some (.ref f_o12)))
    (x_o12 : FnX K "answer_tick" "answer_tick" sOTick f_o12)
    (g_o13 : PySem.W.nsIn K mainGlobals "answer_cause" = some (some (.ref f_o13)))
    (x_o13 : FnX K "answer_cause" "answer_cause" sOCause f_o13)
    (g_o14 : PySem.W.nsIn K mainGlobals "answer_state" = some (some (.ref f_o14)))
    (x_o14 : FnX K "answer_state" "answer_state" sOState f_o14)
    (g_o15 : PySem.W.nsIn K mainGlobals "answer_counts" = some (some (.ref f_o15)))
    (x_o15 : FnX K "answer_counts" "answer_counts" sOCounts f_o15)
    (g_aA : PySem.W.nsIn K mainGlobals "answers" = some (some (.ref f_aA)))
    (x_aA : FnX K "answers" "answers" sAnswers f_aA)
    (c_0 : PySem.W.nsIn K mainGlobals "FRAME_BYTES" = some (some (.int (4096) t_0)))
    (c_1 : PySem.W.nsIn K mainGlobals "SENDING_RINGS" = some (some (.int (4) t_1)))
    (c_2 : PySem.W.nsIn K mainGlobals "LENDING_RING" = some (some (.int (4) t_2)))
    (c_3 : PySem.W.nsIn K mainGlobals "COUNT_MODULUS" = some (some (.int (4294967296) t_3)))
    (c_4 : PySem.W.nsIn K mainGlobals "FRAMES_OUT" = some (some (.int (16) t_4)))
    (c_5 : PySem.W.nsIn K mainGlobals "NO_RING" = some (some (.int (-1) t_5)))
    (c_6 : PySem.W.nsIn K mainGlobals "BUFFERS" = some (some (.int (64) t_6)))
    (c_7 : PySem.W.nsIn K mainGlobals "BUFFER_BYTES" = some (some (.int (256) t_7)))
    (c_8 : PySem.W.nsIn K mainGlobals "RINGS" = some (some (.int (5) t_8)))
    (c_9 : PySem.W.nsIn K mainGlobals "OPENING" = some (some (.int (1) t_9)))
    (c_10 : PySem.W.nsIn K mainGlobals "NO_CARD" = some (some (.int (-7) t_10)))
    (c_11 : PySem.W.nsIn K mainGlobals "WRONG_NUMBER" = some (some (.int (-2) t_11)))
    (c_12 : PySem.W.nsIn K mainGlobals "NOT_WITH_MACHINE" = some (some (.int (-4) t_12)))
    (c_13 : PySem.W.nsIn K mainGlobals "RING_FULL" = some (some (.int (-5) t_13)))
    (c_14 : PySem.W.nsIn K mainGlobals "NONE_THERE" = some (some (.int (-6) t_14)))
    (z_len : PySem.W.nsIn K mainGlobals "len" = some none)
    (z_range : PySem.W.nsIn K mainGlobals "range" = some none)
    (g_aR : PySem.W.nsIn K mainGlobals "RANGES" = some (some (.ref aR)))
    (g_aC : PySem.W.nsIn K mainGlobals "CALLS_ON_CARD" = some (some (.ref aC)))
    (r_1 : ∃ v, KDI K aR 1 v ∧ WRanges K v [(1, 6), (1, 64), (1, 1000)])
    (r_2 : ∃ v, KDI K aR 2 v ∧ WRanges K v [(0, 63), (0, 256)])
    (r_3 : ∃ v, KDI K aR 3 v ∧ WRanges K v [(0, 63)])
    (r_4 : ∃ v, KDI K aR 4 v ∧ WRanges K v [(0, 3), (0, 63), (1, 256), (0, 1)])
    (r_5 : ∃ v, KDI K aR 5 v ∧ WRanges K v [(0, 4)])
    (r_6 : ∃ v, KDI K aR 6 v ∧ WRanges K v [(1, 64)])
    (r_7 : ∃ v, KDI K aR 7 v ∧ WRanges K v [(0, 3)])
    (r_8 : ∃ v, KDI K aR 8 v ∧ WRanges K v [])
    (r_9 : ∃ v, KDI K aR 9 v ∧ WRanges K v [(0, 63)])
    (r_10 : ∃ v, KDI K aR 10 v ∧ WRanges K v [(1, 1024)])
    (r_11 : ∃ v, KDI K aR 11 v ∧ WRanges K v [])
    (r_12 : ∃ v, KDI K aR 12 v ∧ WRanges K v [(1, 1000)])
    (r_13 : ∃ v, KDI K aR 13 v ∧ WRanges K v [])
    (r_14 : ∃ v, KDI K aR 14 v ∧ WRanges K v [(0, 4)])
    (r_15 : ∃ v, KDI K aR 15 v ∧ WRanges K v [])
    (d_2 : KDI K aC 2 (.ref f_o2))
    (d_3 : KDI K aC 3 (.ref f_o3))
    (d_4 : KDI K aC 4 (.ref f_o4))
    (d_5 : KDI K aC 5 (.ref f_o5))
    (d_6 : KDI K aC 6 (.ref f_o6))
    (d_7 : KDI K aC 7 (.ref f_o7))
    (d_8 : KDI K aC 8 (.ref f_o8))
    (d_9 : KDI K aC 9 (.ref f_o9))
    (d_10 : KDI K aC 10 (.ref f_o10))
    (d_11 : KDI K aC 11 (.ref f_o11))
    (d_12 : KDI K aC 12 (.ref f_o12))
    (d_13 : KDI K aC 13 (.ref f_o13))
    (d_14 : KDI K aC 14 (.ref f_o14))
    (d_15 : KDI K aC 15 (.ref f_o15))
    (ne1 : CR ≠ CD)
    (ne2 : CC ≠ CD)
    (ne3 : CK ≠ CD)
    (ne4 : CU ≠ CD)
    : ∃ fd : FuncData, (∀ (s : Shared) (us : List Value), us.length = (["calls"] : List Str).length → BindsTo s fd ⟨us, []⟩ ((["calls"] : List Str).zip us)) ∧ ∀ base : Heap, K.In base → base.Ns mainGlobals mg → FnOk P w K mg base CX0 8 fa fd ["calls"] (spAnswers K) := by
  have e := hfa.symm.trans (PySem.W.mg_of X G g_aA)
  cases e
  obtain ⟨fd_uI, F_uI⟩ := x_uI
  obtain ⟨fd_uC, F_uC⟩ := x_uC
  obtain ⟨fd_uT, F_uT⟩ := x_uT
  obtain ⟨fd_uG, F_uG⟩ := x_uG
  obtain ⟨fd_uA, F_uA⟩ := x_uA
  obtain ⟨fd_xM, F_xM⟩ := x_xM
  obtain ⟨fd_xP, F_xP⟩ := x_xP
  obtain ⟨fd_dI, F_dI⟩ := x_dI
  obtain ⟨fd_rI, F_rI⟩ := x_rI
  obtain ⟨fd_rU, F_rU⟩ := x_rU
  obtain ⟨fd_rF, F_rF⟩ := x_rF
  obtain ⟨fd_rS, F_rS⟩ := x_rS
  obtain ⟨fd_rN, F_rN⟩ := x_rN
  obtain ⟨fd_rX, F_rX⟩ := x_rX
  obtain ⟨fd_rT, F_rT⟩ := x_rT
  obtain ⟨fd_rJ, F_rJ⟩ := x_rJ
  obtain ⟨fd_rE, F_rE⟩ := x_rE
  obtain ⟨fd_cI, F_cI⟩ := x_cI
  obtain ⟨fd_cW, F_cW⟩ := x_cW
  obtain ⟨fd_cP, F_cP⟩ := x_cP
  obtain ⟨fd_cR, F_cR⟩ := x_cR
  obtain ⟨fd_cK, F_cK⟩ := x_cK
  obtain ⟨fd_cS, F_cS⟩ := x_cS
  obtain ⟨fd_cV, F_cV⟩ := x_cV
  obtain ⟨fd_cN, F_cN⟩ := x_cN
  obtain ⟨fd_cT, F_cT⟩ := x_cT
  obtain ⟨fd_cF, F_cF⟩ := x_cF
  obtain ⟨fd_cG, F_cG⟩ := x_cG
  obtain ⟨fd_cL, F_cL⟩ := x_cL
  obtain ⟨fd_kI, F_kI⟩ := x_kI
  obtain ⟨fd_kA, F_kA⟩ := x_kA
  obtain ⟨fd_tT, F_tT⟩ := x_tT
  obtain ⟨fd_o2, F_o2⟩ := x_o2
  obtain ⟨fd_o3, F_o3⟩ := x_o3
  obtain ⟨fd_o4, F_o4⟩ := x_o4
  obtain ⟨fd_o5, F_o5⟩ := x_o5
  obtain ⟨fd_o6, F_o6⟩ := x_o6
  obtain ⟨fd_o7, F_o7⟩ := x_o7
  obtain ⟨fd_o8, F_o8⟩ := x_o8
  obtain ⟨fd_yY, F_yY⟩ := x_yY
  obtain ⟨fd_yO, F_yO⟩ := x_yO
  obtain ⟨fd_oP, F_oP⟩ := x_oP
  obtain ⟨fd_o9, F_o9⟩ := x_o9
  obtain ⟨fd_o10, F_o10⟩ := x_o10
  obtain ⟨fd_o11, F_o11⟩ := x_o11
  obtain ⟨fd_o12, F_o12⟩ := x_o12
  obtain ⟨fd_o13, F_o13⟩ := x_o13
  obtain ⟨fd_o14, F_o14⟩ := x_o14
  obtain ⟨fd_o15, F_o15⟩ := x_o15
  obtain ⟨fd_aA, F_aA⟩ := x_aA
  have zl := PySem.W.mg_none_of X G z_len
  have zr := PySem.W.mg_none_of X G z_range
  have C_0 := PySem.W.mg_of X G c_0
  have C_1 := PySem.W.mg_of X G c_1
  have C_2 := PySem.W.mg_of X G c_2
  have C_3 := PySem.W.mg_of X G c_3
  have C_4 := PySem.W.mg_of X G c_4
  have C_5 := PySem.W.mg_of X G c_5
  have C_6 := PySem.W.mg_of X G c_6
  have C_7 := PySem.W.mg_of X G c_7
  have C_8 := PySem.W.mg_of X G c_8
  have C_9 := PySem.W.mg_of X G c_9
  have C_10 := PySem.W.mg_of X G c_10
  have C_11 := PySem.W.mg_of X G c_11
  have C_12 := PySem.W.mg_of X G c_12
  have C_13 := PySem.W.mg_of X G c_13
  have C_14 := PySem.W.mg_of X G c_14
  have TD : DTxt K CD := ⟨⟨x_CD.pg, x_CD.hd, x_CD.po, x_CD.sa⟩, n_CD_buffer, n_CD_length, n_CD_last⟩
  have TR : RTxt K mg CD CR := ⟨⟨x_CR.pg, x_CR.hd, x_CR.po, x_CR.sa⟩, n_CR_places, n_CR_posted, n_CR_seen, n_CR_done, n_CR_frame, zl, ⟨_, C_0⟩, ne1⟩
  have TU : UTxt K CD CU := ⟨⟨x_CU.pg, x_CU.hd, x_CU.po, x_CU.sa⟩, (fun x hx => by
    unfold uN at hx
    simp only [List.mem_cons, List.not_mem_nil, or_false] at hx
    rcases hx with rfl | rfl | rfl | rfl
    · exact n_CU_many
    · exact n_CU_late
    · exact n_CU_done_since
    · exact n_CU_ticks_waited
    ), ne4⟩
  have TC : CTxt K mg CD CR CC CU := ⟨⟨x_CC.pg, x_CC.hd, x_CC.po, x_CC.sa⟩, (fun x hx => by
    unfold cN at hx
    simp only [List.mem_cons, List.not_mem_nil, or_false] at hx
    rcases hx with rfl | rfl | rfl | rfl | rfl | rfl | rfl | rfl | rfl
    · exact n_CC_cause
    · exact n_CC_buffers
    · exact n_CC_with_machine
    · exact n_CC_rings
    · exact n_CC_turn
    · exact n_CC_frames_out
    · exact n_CC_frames_sent
    · exact n_CC_frames_come
    · exact n_CC_frames_dropped
    ), zl, TR, TD, TU, ne2⟩
  have TS : STxt mg := ⟨zr, ⟨_, C_1⟩, ⟨_, C_3⟩, ⟨_, C_4⟩, ⟨_, C_5⟩, ⟨_, C_2⟩⟩
  have TI : ITxt mg CR CU := ⟨zr, ⟨_, C_6⟩, ⟨_, C_7⟩, ⟨_, C_8⟩, PySem.W.mg_of X G g_CR, PySem.W.mg_of X G g_CU⟩
  have TO : OTxt K mg CD CR CC CU := ⟨TC, ⟨_, C_12⟩, ⟨_, C_13⟩, ⟨_, C_14⟩, PySem.W.mg_of X G g_CD⟩
  have TT : TTxt mg aR := ⟨zl, zr, PySem.W.mg_of X G g_aR⟩
  have M_uI : Meth K CU "__init__" f_uI := ⟨m_uI.a, m_uI.i, F_uI.kp⟩
  have M_uC : Meth K CU "count_done" f_uC := ⟨m_uC.a, m_uC.i, F_uC.kp⟩
  have M_uT : Meth K CU "pass_ticks" f_uT := ⟨m_uT.a, m_uT.i, F_uT.kp⟩
  have M_uG : Meth K CU "is_given" f_uG := ⟨m_uG.a, m_uG.i, F_uG.kp⟩
  have M_uA : Meth K CU "begin_anew" f_uA := ⟨m_uA.a, m_uA.i, F_uA.kp⟩
  have M_dI : Meth K CD "__init__" f_dI := ⟨m_dI.a, m_dI.i, F_dI.kp⟩
  have M_rI : Meth K CR "__init__" f_rI := ⟨m_rI.a, m_rI.i, F_rI.kp⟩
  have M_rU : Meth K CR "used" f_rU := ⟨m_rU.a, m_rU.i, F_rU.kp⟩
  have M_rF : Meth K CR "is_full" f_rF := ⟨m_rF.a, m_rF.i, F_rF.kp⟩
  have M_rS : Meth K CR "show_posted" f_rS := ⟨m_rS.a, m_rS.i, F_rS.kp⟩
  have M_rN : Meth K CR "mark_first_done" f_rN := ⟨m_rN.a, m_rN.i, F_rN.kp⟩
  have M_rX : Meth K CR "take_first_done" f_rX := ⟨m_rX.a, m_rX.i, F_rX.kp⟩
  have M_rT : Meth K CR "take_done" f_rT := ⟨m_rT.a, m_rT.i, F_rT.kp⟩
  have M_rJ : Meth K CR "join_frame" f_rJ := ⟨m_rJ.a, m_rJ.i, F_rJ.kp⟩
  have M_rE : Meth K CR "end_frame" f_rE := ⟨m_rE.a, m_rE.i, F_rE.kp⟩
  have M_cI : Meth K CC "__init__" f_cI := ⟨m_cI.a, m_cI.i, F_cI.kp⟩
  have M_cW : Meth K CC "write" f_cW := ⟨m_cW.a, m_cW.i, F_cW.kp⟩
  have M_cP : Meth K CC "post" f_cP := ⟨m_cP.a, m_cP.i, F_cP.kp⟩
  have M_cR : Meth K CC "reap" f_cR := ⟨m_cR.a, m_cR.i, F_cR.kp⟩
  have M_cK : Meth K CC "work" f_cK := ⟨m_cK.a, m_cK.i, F_cK.kp⟩
  have M_cS : Meth K CC "step" f_cS := ⟨m_cS.a, m_cS.i, F_cS.kp⟩
  have M_cV : Meth K CC "ring_to_serve" f_cV := ⟨m_cV.a, m_cV.i, F_cV.kp⟩
  have M_cN : Meth K CC "send_first" f_cN := ⟨m_cN.a, m_cN.i, F_cN.kp⟩
  have M_cT : Meth K CC "take_lent" f_cT := ⟨m_cT.a, m_cT.i, F_cT.kp⟩
  have M_cF : Meth K CC "finish_first" f_cF := ⟨m_cF.a, m_cF.i, F_cF.kp⟩
  have M_cG : Meth K CC "receive" f_cG := ⟨m_cG.a, m_cG.i, F_cG.kp⟩
  have M_cL : Meth K CC "fill_first" f_cL := ⟨m_cL.a, m_cL.i, F_cL.kp⟩
  have M_kI : Meth K CK "__init__" f_kI := ⟨m_kI.a, m_kI.i, F_kI.kp⟩
  have M_kA : Meth K CK "answer" f_kA := ⟨m_kA.a, m_kA.i, F_kA.kp⟩
  have K_CD : Mk K CD f_dI := ⟨x_CD.mks, m_dI.a, m_dI.i, x_CD.kc⟩
  have K_CR : Mk K CR f_rI := ⟨x_CR.mks, m_rI.a, m_rI.i, x_CR.kc⟩
  have K_CC : Mk K CC f_cI := ⟨x_CC.mks, m_cI.a, m_cI.i, x_CC.kc⟩
  have K_CU : Mk K CU f_uI := ⟨x_CU.mks, m_uI.a, m_uI.i, x_CU.kc⟩
  have K_CK : Mk K CK f_kI := ⟨x_CK.mks, m_kI.a, m_kI.i, x_CK.kc⟩
  refine ⟨fd_aA, fun s us hu => ?_, fun base _ _ => ?_⟩
  · obtain ⟨oc, od, kV, doc, pm, an, cdv, ct, osl, e, _, _⟩ := F_aA.ex
    subst e
    match us, hu with
    | [_], _ => exact .of_eq rfl
  have GV := ok_serve (P := P) (w := w) (base := base) F_cV TC TS
  have GF := ok_cfin (P := P) (w := w) (base := base) F_cF TC F_rN (bd_rN F_rN) M_rN F_uC (bd_uC F_uC) M_uC
  have GN := ok_send F_cN TC TS F_rJ (bd_rJ F_rJ) M_rJ GF (bd_cF F_cF) M_cF F_xM (bd_xM F_xM) (PySem.W.mg_of X G g_xM) F_rE (bd_rE F_rE) M_rE
  have GS := ok_step F_cS TC TS GV (bd_cV F_cV) M_cV GN (bd_cN F_cN) M_cN
  have GK := ok_work F_cK TC GS (bd_cS F_cS) M_cS
  have GR := ok_reap (P := P) (w := w) (base := base) F_cR TC F_rT (bd_rT F_rT) M_rT
  have GQ := ok_oposted (P := P) (w := w) (base := base) F_oP TO F_rU (bd_rU F_rU) M_rU F_rF (bd_rF F_rF) M_rF F_cP (bd_cP F_cP) M_cP
  have GL := ok_fill F_cL TC TS F_cW (bd_cW F_cW) M_cW GF (bd_cF F_cF) M_cF
  have GG := ok_recv F_cG TC TS ⟨_, C_7⟩ F_xP (bd_xP F_xP) (PySem.W.mg_of X G g_xP) F_xM (bd_xM F_xM) (PySem.W.mg_of X G g_xM) GL (bd_cL F_cL) M_cL
  have GE := ok_takeL (P := P) (w := w) (base := base) F_cT TC TS F_rX (bd_rX F_rX) M_rX
  have O2 := ok_owrite (P := P) (w := w) (base := base) F_o2 TO F_cW (bd_cW F_cW) M_cW
  have O3 := ok_oread (P := P) (w := w) (base := base) F_o3 TO
  have O4 := ok_opost F_o4 TO GQ (bd_oP F_oP) (PySem.W.mg_of X G g_oP) F_oP.kp K_CD F_dI (bd_dI F_dI)
  have O5 := ok_odoor (P := P) (w := w) (base := base) F_o5 TO F_rS (bd_rS F_rS) M_rS
  have O6 := ok_owork F_o6 TO GK (bd_cK F_cK) M_cK
  have O7 := ok_oreap F_o7 TO GR (bd_cR F_cR) M_cR F_yO (bd_yO F_yO) (PySem.W.mg_of X G g_yO)
  have O8 := ok_oout (P := P) (w := w) (base := base) F_o8 TO
  have O9 := ok_olend F_o9 TO TS GQ (bd_oP F_oP) (PySem.W.mg_of X G g_oP) F_oP.kp K_CD F_dI (bd_dI F_dI)
  have O10 := ok_owire F_o10 TO GG (bd_cG F_cG) M_cG F_yY (bd_yY F_yY) (PySem.W.mg_of X G g_yY)
  have O11 := ok_otake F_o11 TO TS GE (bd_cT F_cT) M_cT F_yO (bd_yO F_yO) (PySem.W.mg_of X G g_yO)
  have O12 := ok_otick (P := P) (w := w) (base := base) F_o12 TO F_uT (bd_uT F_uT) M_uT F_uG (bd_uG F_uG) M_uG F_yY (bd_yY F_yY) (PySem.W.mg_of X G g_yY)
  have O13 := ok_ocause (P := P) (w := w) (base := base) F_o13 TO F_uA (bd_uA F_uA) M_uA F_uG (bd_uG F_uG) M_uG F_yY (bd_yY F_yY) (PySem.W.mg_of X G g_yY)
  have O14 := ok_ostate (P := P) (w := w) (base := base) F_o14 TO
  have O15 := ok_ocounts (P := P) (w := w) (base := base) F_o15 TO
  have GI := ok_cinit (P := P) (w := w) (base := base) F_cI TC TI K_CR F_rI (bd_rI F_rI) K_CU F_uI (bd_uI F_uI)
  have GT := ok_told (P := P) (w := w) (base := base) (K := K) F_tT TT
  have KT : KTxt P w K mg base 6 CD CK CC aR aC f_tT (CardC CD CR CC CU) := by
    refine ⟨⟨x_CK.pg, x_CK.hd, x_CK.po, x_CK.sa⟩, n_CK_card, ⟨_, C_9⟩, ⟨_, C_10⟩, ⟨_, C_11⟩, PySem.W.mg_of X G g_tT, F_tT.kp, PySem.W.mg_of X G g_CC, PySem.W.mg_of X G g_aC, fun n h1 h2 => ?_, fun n h1 h2 => ?_⟩
    · have : n = 1 ∨ n = 2 ∨ n = 3 ∨ n = 4 ∨ n = 5 ∨ n = 6 ∨ n = 7 ∨ n = 8 ∨ n = 9 ∨ n = 10 ∨ n = 11 ∨ n = 12 ∨ n = 13 ∨ n = 14 ∨ n = 15 := by omega
      rcases this with rfl | rfl | rfl | rfl | rfl | rfl | rfl | rfl | rfl | rfl | rfl | rfl | rfl | rfl | rfl
      · exact r_1
      · exact r_2
      · exact r_3
      · exact r_4
      · exact r_5
      · exact r_6
      · exact r_7
      · exact r_8
      · exact r_9
      · exact r_10
      · exact r_11
      · exact r_12
      · exact r_13
      · exact r_14
      · exact r_15
    · have : n = 2 ∨ n = 3 ∨ n = 4 ∨ n = 5 ∨ n = 6 ∨ n = 7 ∨ n = 8 ∨ n = 9 ∨ n = 10 ∨ n = 11 ∨ n = 12 ∨ n = 13 ∨ n = 14 ∨ n = 15 := by omega
      rcases this with rfl | rfl | rfl | rfl | rfl | rfl | rfl | rfl | rfl | rfl | rfl | rfl | rfl | rfl
      · exact ⟨f_o2, d_2, ⟨⟨_, _, O2.mono (by decide), F_o2.kp, bd_o2 F_o2⟩⟩⟩
      · exact ⟨f_o3, d_3, ⟨⟨_, _, O3.mono (by decide), F_o3.kp, bd_o3 F_o3⟩⟩⟩
      · exact ⟨f_o4, d_4, ⟨⟨_, _, O4.mono (by decide), F_o4.kp, bd_o4 F_o4⟩⟩⟩
      · exact ⟨f_o5, d_5, ⟨⟨_, _, O5.mono (by decide), F_o5.kp, bd_o5 F_o5⟩⟩⟩
      · exact ⟨f_o6, d_6, ⟨⟨_, _, O6.mono (by decide), F_o6.kp, bd_o6 F_o6⟩⟩⟩
      · exact ⟨f_o7, d_7, ⟨⟨_, _, O7.mono (by decide), F_o7.kp, bd_o7 F_o7⟩⟩⟩
      · exact ⟨f_o8, d_8, ⟨⟨_, _, O8.mono (by decide), F_o8.kp, bd_o8 F_o8⟩⟩⟩
      · exact ⟨f_o9, d_9, ⟨⟨_, _, O9.mono (by decide), F_o9.kp, bd_o9 F_o9⟩⟩⟩
      · exact ⟨f_o10, d_10, ⟨⟨_, _, O10.mono (by decide), F_o10.kp, bd_o10 F_o10⟩⟩⟩
      · exact ⟨f_o11, d_11, ⟨⟨_, _, O11.mono (by decide), F_o11.kp, bd_o11 F_o11⟩⟩⟩
      · exact ⟨f_o12, d_12, ⟨⟨_, _, O12.mono (by decide), F_o12.kp, bd_o12 F_o12⟩⟩⟩
      · exact ⟨f_o13, d_13, ⟨⟨_, _, O13.mono (by decide), F_o13.kp, bd_o13 F_o13⟩⟩⟩
      · exact ⟨f_o14, d_14, ⟨⟨_, _, O14.mono (by decide), F_o14.kp, bd_o14 F_o14⟩⟩⟩
      · exact ⟨f_o15, d_15, ⟨⟨_, _, O15.mono (by decide), F_o15.kp, bd_o15 F_o15⟩⟩⟩
  have GA := ok_dans (j := 4) F_kA KT cardP ne3 GT (bd_tT F_tT) K_CC (GI.mono (by decide)) (bd_cI F_cI)
  exact ok_answers (j := 5) F_aA ⟨⟨x_CK.pg, x_CK.hd, x_CK.po, x_CK.sa⟩, PySem.W.mg_of X G g_CK, zl⟩ (deskP ne3 cardP) K_CK (ok_dinit F_kI KT) (bd_kI F_kI) GA (bd_kA F_kA) M_kA
end Rg

open PySem PySem.W PyProof.Rows
set_option maxRecDepth 100000 in
set_option maxHeartbeats 0 in
theorem PySem.Challenge.cw_cardringsdesk_s01_answers_holds : PySem.Challenge.rw_cardringsdesk_s01_answers.Holds := by
  w_on; k_headS; (case hw => exact ⟨[.list [.int 8, .int 0, .int 0]], by decide +kernel, by decide +kernel⟩)
  k_fillS
  refine L2.walk_specK (r := PySem.Challenge.rw_cardringsdesk_s01_answers) (k := 8) (CX := L2.CX0) (ps := ["calls"]) (sp := Rg.spAnswers) (by decide +kernel) rfl rfl ⟨rfl, by decide, by decide⟩ (fun w h Y => PySem.W.kIn_of Y) ?F ?S (fun _ _ _ _ z => z)
  case F =>
    intro w mg fa h Y KX G hmg
    refine' Rg.all_mk KX G hmg ?g_CD ?x_CD ?n_CD_buffer ?n_CD_length ?n_CD_last ?g_CR ?x_CR ?n_CR_places ?n_CR_posted ?n_CR_seen ?n_CR_done ?n_CR_frame ?g_CC ?x_CC ?n_CC_cause ?n_CC_buffers ?n_CC_with_machine ?n_CC_rings ?n_CC_turn ?n_CC_frames_out ?n_CC_frames_sent ?n_CC_frames_come ?n_CC_frames_dropped ?g_CU ?x_CU ?n_CU_many ?n_CU_late ?n_CU_done_since ?n_CU_ticks_waited ?g_CK ?x_CK ?n_CK_card ?m_uI ?x_uI ?m_uC ?x_uC ?m_uT ?x_uT ?m_uG ?x_uG ?m_uA ?x_uA ?g_xM ?x_xM ?g_xP ?x_xP ?m_dI ?x_dI ?m_rI ?x_rI ?m_rU ?x_rU ?m_rF ?x_rF ?m_rS ?x_rS ?m_rN ?x_rN ?m_rX ?x_rX ?m_rT ?x_rT ?m_rJ ?x_rJ ?m_rE ?x_rE ?m_cI ?x_cI ?m_cW ?x_cW ?m_cP ?x_cP ?m_cR ?x_cR ?m_cK ?x_cK ?m_cS ?x_cS ?m_cV ?x_cV ?m_cN ?x_cN ?m_cT ?x_cT ?m_cF ?x_cF ?m_cG ?x_cG ?m_cL ?x_cL ?m_kI ?x_kI ?m_kA ?x_kA ?g_tT ?x_tT ?g_o2 ?x_o2 ?g_o3 ?x_o3 ?g_o4 ?x_o4 ?g_o5 ?x_o5 ?g_o6 ?x_o6 ?g_o7 ?x_o7 ?g_o8 ?x_o8 ?g_yY ?x_yY ?g_yO ?x_yO ?g_oP ?x_oP ?g_o9 ?x_o9 ?g_o10 ?x_o10 ?g_o11 ?x_o11 ?g_o12 ?x_o12 ?g_o13 ?x_o13 ?g_o14 ?x_o14 ?g_o15 ?x_o15 ?g_aA ?x_aA ?c_0 ?c_1 ?c_2 ?c_3 ?c_4 ?c_5 ?c_6 ?c_7 ?c_8 ?c_9 ?c_10 ?c_11 ?c_12 ?c_13 ?c_14 ?z_len ?z_range ?g_aR ?g_aC ?r_1 ?r_2 ?r_3 ?r_4 ?r_5 ?r_6 ?r_7 ?r_8 ?r_9 ?r_10 ?r_11 ?r_12 ?r_13 ?r_14 ?r_15 ?d_2 ?d_3 ?d_4 ?d_5 ?d_6 ?d_7 ?d_8 ?d_9 ?d_10 ?d_11 ?d_12 ?d_13 ?d_14 ?d_15 ?ne1 ?ne2 ?ne3 ?ne4
    (case g_CD => k_is)
    (case x_CD => constructor <;> k_is)
    (case n_CD_buffer => k_is)
    (case n_CD_length => k_is)
    (case n_CD_last => k_is)
    (case g_CR => k_is)
    (case x_CR => constructor <;> k_is)
    (case n_CR_places => k_is)
    (case n_CR_posted => k_is)
    (case n_CR_seen => k_is)
    (case n_CR_done => k_is)
    (case n_CR_frame => k_is)
    (case g_CC => k_is)
    (case x_CC => constructor <;> k_is)
    (case n_CC_cause => k_is)
    (case n_CC_buffers => k_is)
    (case n_CC_with_machine => k_is)
    (case n_CC_rings => k_is)
    (case n_CC_turn => k_is)
    (case n_CC_frames_out => k_is)
    (case n_CC_frames_sent => k_is)
    (case n_CC_frames_come => k_is)
    (case n_CC_frames_dropped => k_is)
    (case g_CU => k_is)
    (case x_CU => constructor <;> k_is)
    (case n_CU_many => k_is)
    (case n_CU_late => k_is)
    (case n_CU_done_since => k_is)
    (case n_CU_ticks_waited => k_is)
    (case g_CK => k_is)
    (case x_CK => constructor <;> k_is)
    (case n_CK_card => k_is)
    (case m_uI => refine' Rg.MtX.mk ?a_uI ?i_uI; (case a_uI => k_is); (case i_uI => k_is))
    (case x_uI => refine' Rg.fnx ?l_uI ?c_uI ?k_uI; (case l_uI => k_is); (case c_uI => k_is); (case k_uI => k_is))
    (case m_uC => refine' Rg.MtX.mk ?a_uC ?i_uC; (case a_uC => k_is); (case i_uC => k_is))
    (case x_uC => refine' Rg.fnx ?l_uC ?c_uC ?k_uC; (case l_uC => k_is); (case c_uC => k_is); (case k_uC => k_is))
    (case m_uT => refine' Rg.MtX.mk ?a_uT ?i_uT; (case a_uT => k_is); (case i_uT => k_is))
    (case x_uT => refine' Rg.fnx ?l_uT ?c_uT ?k_uT; (case l_uT => k_is); (case c_uT => k_is); (case k_uT => k_is))
    (case m_uG => refine' Rg.MtX.mk ?a_uG ?i_uG; (case a_uG => k_is); (case i_uG => k_is))
    (case x_uG => refine' Rg.fnx ?l_uG ?c_uG ?k_uG; (case l_uG => k_is); (case c_uG => k_is); (case k_uG => k_is))
    (case m_uA => refine' Rg.MtX.mk ?a_uA ?i_uA; (case a_uA => k_is); (case i_uA => k_is))
    (case x_uA => refine' Rg.fnx ?l_uA ?c_uA ?k_uA; (case l_uA => k_is); (case c_uA => k_is); (case k_uA => k_is))
    (case g_xM => k_is)
    (case x_xM => refine' Rg.fnx ?l_xM ?c_xM ?k_xM; (case l_xM => k_is); (case c_xM => k_is); (case k_xM => k_is))
    (case g_xP => k_is)
    (case x_xP => refine' Rg.fnx ?l_xP ?c_xP ?k_xP; (case l_xP => k_is); (case c_xP => k_is); (case k_xP => k_is))
    (case m_dI => refine' Rg.MtX.mk ?a_dI ?i_dI; (case a_dI => k_is); (case i_dI => k_is))
    (case x_dI => refine' Rg.fnx ?l_dI ?c_dI ?k_dI; (case l_dI => k_is); (case c_dI => k_is); (case k_dI => k_is))
    (case m_rI => refine' Rg.MtX.mk ?a_rI ?i_rI; (case a_rI => k_is); (case i_rI => k_is))
    (case x_rI => refine' Rg.fnx ?l_rI ?c_rI ?k_rI; (case l_rI => k_is); (case c_rI => k_is); (case k_rI => k_is))
    (case m_rU => refine' Rg.MtX.mk ?a_rU ?i_rU; (case a_rU => k_is); (case i_rU => k_is))
    (case x_rU => refine' Rg.fnx ?l_rU ?c_rU ?k_rU; (case l_rU => k_is); (case c_rU => k_is); (case k_rU => k_is))
    (case m_rF => refine' Rg.MtX.mk ?a_rF ?i_rF; (case a_rF => k_is); (case i_rF => k_is))
    (case x_rF => refine' Rg.fnx ?l_rF ?c_rF ?k_rF; (case l_rF => k_is); (case c_rF => k_is); (case k_rF => k_is))
    (case m_rS => refine' Rg.MtX.mk ?a_rS ?i_rS; (case a_rS => k_is); (case i_rS => k_is))
    (case x_rS => refine' Rg.fnx ?l_rS ?c_rS ?k_rS; (case l_rS => k_is); (case c_rS => k_is); (case k_rS => k_is))
    (case m_rN => refine' Rg.MtX.mk ?a_rN ?i_rN; (case a_rN => k_is); (case i_rN => k_is))
    (case x_rN => refine' Rg.fnx ?l_rN ?c_rN ?k_rN; (case l_rN => k_is); (case c_rN => k_is); (case k_rN => k_is))
    (case m_rX => refine' Rg.MtX.mk ?a_rX ?i_rX; (case a_rX => k_is); (case i_rX => k_is))
    (case x_rX => refine' Rg.fnx ?l_rX ?c_rX ?k_rX; (case l_rX => k_is); (case c_rX => k_is); (case k_rX => k_is))
    (case m_rT => refine' Rg.MtX.mk ?a_rT ?i_rT; (case a_rT => k_is); (case i_rT => k_is))
    (case x_rT => refine' Rg.fnx ?l_rT ?c_rT ?k_rT; (case l_rT => k_is); (case c_rT => k_is); (case k_rT => k_is))
    (case m_rJ => refine' Rg.MtX.mk ?a_rJ ?i_rJ; (case a_rJ => k_is); (case i_rJ => k_is))
    (case x_rJ => refine' Rg.fnx ?l_rJ ?c_rJ ?k_rJ; (case l_rJ => k_is); (case c_rJ => k_is); (case k_rJ => k_is))
    (case m_rE => refine' Rg.MtX.mk ?a_rE ?i_rE; (case a_rE => k_is); (case i_rE => k_is))
    (case x_rE => refine' Rg.fnx ?l_rE ?c_rE ?k_rE; (case l_rE => k_is); (case c_rE => k_is); (case k_rE => k_is))
    (case m_cI => refine' Rg.MtX.mk ?a_cI ?i_cI; (case a_cI => k_is); (case i_cI => k_is))
    (case x_cI => refine' Rg.fnx ?l_cI ?c_cI ?k_cI; (case l_cI => k_is); (case c_cI => k_is); (case k_cI => k_is))
    (case m_cW => refine' Rg.MtX.mk ?a_cW ?i_cW; (case a_cW => k_is); (case i_cW => k_is))
    (case x_cW => refine' Rg.fnx ?l_cW ?c_cW ?k_cW; (case l_cW => k_is); (case c_cW => k_is); (case k_cW => k_is))
    (case m_cP => refine' Rg.MtX.mk ?a_cP ?i_cP; (case a_cP => k_is); (case i_cP => k_is))
    (case x_cP => refine' Rg.fnx ?l_cP ?c_cP ?k_cP; (case l_cP => k_is); (case c_cP => k_is); (case k_cP => k_is))
    (case m_cR => refine' Rg.MtX.mk ?a_cR ?i_cR; (case a_cR => k_is); (case i_cR => k_is))
    (case x_cR => refine' Rg.fnx ?l_cR ?c_cR ?k_cR; (case l_cR => k_is); (case c_cR => k_is); (case k_cR => k_is))
    (case m_cK => refine' Rg.MtX.mk ?a_cK ?i_cK; (case a_cK => k_is); (case i_cK => k_is))
    (case x_cK => refine' Rg.fnx ?l_cK ?c_cK ?k_cK; (case l_cK => k_is); (case c_cK => k_is); (case k_cK => k_is))
    (case m_cS => refine' Rg.MtX.mk ?a_cS ?i_cS; (case a_cS => k_is); (case i_cS => k_is))
    (case x_cS => refine' Rg.fnx ?l_cS ?c_cS ?k_cS; (case l_cS => k_is); (case c_cS => k_is); (case k_cS => k_is))
    (case m_cV => refine' Rg.MtX.mk ?a_cV ?i_cV; (case a_cV => k_is); (case i_cV => k_is))
    (case x_cV => refine' Rg.fnx ?l_cV ?c_cV ?k_cV; (case l_cV => k_is); (case c_cV => k_is); (case k_cV => k_is))
    (case m_cN => refine' Rg.MtX.mk ?a_cN ?i_cN; (case a_cN => k_is); (case i_cN => k_is))
    (case x_cN => refine' Rg.fnx ?l_cN ?c_cN ?k_cN; (case l_cN => k_is); (case c_cN => k_is); (case k_cN => k_is))
    (case m_cT => refine' Rg.MtX.mk ?a_cT ?i_cT; (case a_cT => k_is); (case i_cT => k_is))
    (case x_cT => refine' Rg.fnx ?l_cT ?c_cT ?k_cT; (case l_cT => k_is); (case c_cT => k_is); (case k_cT => k_is))
    (case m_cF => refine' Rg.MtX.mk ?a_cF ?i_cF; (case a_cF => k_is); (case i_cF => k_is))
    (case x_cF => refine' Rg.fnx ?l_cF ?c_cF ?k_cF; (case l_cF => k_is); (case c_cF => k_is); (case k_cF => k_is))
    (case m_cG => refine' Rg.MtX.mk ?a_cG ?i_cG; (case a_cG => k_is); (case i_cG => k_is))
    (case x_cG => refine' Rg.fnx ?l_cG ?c_cG ?k_cG; (case l_cG => k_is); (case c_cG => k_is); (case k_cG => k_is))
    (case m_cL => refine' Rg.MtX.mk ?a_cL ?i_cL; (case a_cL => k_is); (case i_cL => k_is))
    (case x_cL => refine' Rg.fnx ?l_cL ?c_cL ?k_cL; (case l_cL => k_is); (case c_cL => k_is); (case k_cL => k_is))
    (case m_kI => refine' Rg.MtX.mk ?a_kI ?i_kI; (case a_kI => k_is); (case i_kI => k_is))
    (case x_kI => refine' Rg.fnx ?l_kI ?c_kI ?k_kI; (case l_kI => k_is); (case c_kI => k_is); (case k_kI => k_is))
    (case m_kA => refine' Rg.MtX.mk ?a_kA ?i_kA; (case a_kA => k_is); (case i_kA => k_is))
    (case x_kA => refine' Rg.fnx ?l_kA ?c_kA ?k_kA; (case l_kA => k_is); (case c_kA => k_is); (case k_kA => k_is))
    (case g_tT => k_is)
    (case x_tT => refine' Rg.fnx ?l_tT ?c_tT ?k_tT; (case l_tT => k_is); (case c_tT => k_is); (case k_tT => k_is))
    (case g_o2 => k_is)
    (case x_o2 => refine' Rg.fnx ?l_o2 ?c_o2 ?k_o2; (case l_o2 => k_is); (case c_o2 => k_is); (case k_o2 => k_is))
    (case g_o3 => k_is)
    (case x_o3 => refine' Rg.fnx ?l_o3 ?c_o3 ?k_o3; (case l_o3 => k_is); (case c_o3 => k_is); (case k_o3 => k_is))
    (case g_o4 => k_is)
    (case x_o4 => refine' Rg.fnx ?l_o4 ?c_o4 ?k_o4; (case l_o4 => k_is); (case c_o4 => k_is); (case k_o4 => k_is))
    (case g_o5 => k_is)
    (case x_o5 => refine' Rg.fnx ?l_o5 ?c_o5 ?k_o5; (case l_o5 => k_is); (case c_o5 => k_is); (case k_o5 => k_is))
    (case g_o6 => k_is)
    (case x_o6 => refine' Rg.fnx ?l_o6 ?c_o6 ?k_o6; (case l_o6 => k_is); (case c_o6 => k_is); (case k_o6 => k_is))
    (case g_o7 => k_is)
    (case x_o7 => refine' Rg.fnx ?l_o7 ?c_o7 ?k_o7; (case l_o7 => k_is); (case c_o7 => k_is); (case k_o7 => k_is))
    (case g_o8 => k_is)
    (case x_o8 => refine' Rg.fnx ?l_o8 ?c_o8 ?k_o8; (case l_o8 => k_is); (case c_o8 => k_is); (case k_o8 => k_is))
    (case g_yY => k_is)
    (case x_yY => refine' Rg.fnx ?l_yY ?c_yY ?k_yY; (case l_yY => k_is); (case c_yY => k_is); (case k_yY => k_is))
    (case g_yO => k_is)
    (case x_yO => refine' Rg.fnx ?l_yO ?c_yO ?k_yO; (case l_yO => k_is); (case c_yO => k_is); (case k_yO => k_is))
    (case g_oP => k_is)
    (case x_oP => refine' Rg.fnx ?l_oP ?c_oP ?k_oP; (case l_oP => k_is); (case c_oP => k_is); (case k_oP => k_is))
    (case g_o9 => k_is)
    (case x_o9 => refine' Rg.fnx ?l_o9 ?c_o9 ?k_o9; (case l_o9 => k_is); (case c_o9 => k_is); (case k_o9 => k_is))
    (case g_o10 => k_is)
    (case x_o10 => refine' Rg.fnx ?l_o10 ?c_o10 ?k_o10; (case l_o10 => k_is); (case c_o10 => k_is); (case k_o10 => k_is))
    (case g_o11 => k_is)
    (case x_o11 => refine' Rg.fnx ?l_o11 ?c_o11 ?k_o11; (case l_o11 => k_is); (case c_o11 => k_is); (case k_o11 => k_is))
    (case g_o12 => k_is)
    (case x_o12 => refine' Rg.fnx ?l_o12 ?c_o12 ?k_o12; (case l_o12 => k_is); (case c_o12 => k_is); (case k_o12 => k_is))
    (case g_o13 => k_is)
    (case x_o13 => refine' Rg.fnx ?l_o13 ?c_o13 ?k_o13; (case l_o13 => k_is); (case c_o13 => k_is); (case k_o13 => k_is))
    (case g_o14 => k_is)
    (case x_o14 => refine' Rg.fnx ?l_o14 ?c_o14 ?k_o14; (case l_o14 => k_is); (case c_o14 => k_is); (case k_o14 => k_is))
    (case g_o15 => k_is)
    (case x_o15 => refine' Rg.fnx ?l_o15 ?c_o15 ?k_o15; (case l_o15 => k_is); (case c_o15 => k_is); (case k_o15 => k_is))
    (case g_aA => k_is)
    (case x_aA => refine' Rg.fnx ?l_aA ?c_aA ?k_aA; (case l_aA => k_is); (case c_aA => k_is); (case k_aA => k_is))
    (case c_0 => k_is)
    (case c_1 => k_is)
    (case c_2 => k_is)
    (case c_3 => k_is)
    (case c_4 => k_is)
    (case c_5 => k_is)
    (case c_6 => k_is)
    (case c_7 => k_is)
    (case c_8 => k_is)
    (case c_9 => k_is)
    (case c_10 => k_is)
    (case c_11 => k_is)
    (case c_12 => k_is)
    (case c_13 => k_is)
    (case c_14 => k_is)
    (case z_len => k_is)
    (case z_range => k_is)
    (case g_aR => k_is)
    (case g_aC => k_is)
    (case r_1 => refine' ⟨_, Rg.kdi_mk ?l1 ?hk1 ?hf1, Rg.wr3 ?t1 (Rg.wpair_mk ?p1_0) (Rg.wpair_mk ?p1_1) (Rg.wpair_mk ?p1_2)⟩; (case l1 => k_is); (case hk1 => rfl); (case hf1 => rfl); (case t1 => k_is); (case p1_0 => k_is); (case p1_1 => k_is); (case p1_2 => k_is))
    (case r_2 => refine' ⟨_, Rg.kdi_mk ?l2 ?hk2 ?hf2, Rg.wr2 ?t2 (Rg.wpair_mk ?p2_0) (Rg.wpair_mk ?p2_1)⟩; (case l2 => k_is); (case hk2 => rfl); (case hf2 => rfl); (case t2 => k_is); (case p2_0 => k_is); (case p2_1 => k_is))
    (case r_3 => refine' ⟨_, Rg.kdi_mk ?l3 ?hk3 ?hf3, Rg.wr1 ?t3 (Rg.wpair_mk ?p3_0)⟩; (case l3 => k_is); (case hk3 => rfl); (case hf3 => rfl); (case t3 => k_is); (case p3_0 => k_is))
    (case r_4 => refine' ⟨_, Rg.kdi_mk ?l4 ?hk4 ?hf4, Rg.wr4 ?t4 (Rg.wpair_mk ?p4_0) (Rg.wpair_mk ?p4_1) (Rg.wpair_mk ?p4_2) (Rg.wpair_mk ?p4_3)⟩; (case l4 => k_is); (case hk4 => rfl); (case hf4 => rfl); (case t4 => k_is); (case p4_0 => k_is); (case p4_1 => k_is); (case p4_2 => k_is); (case p4_3 => k_is))
    (case r_5 => refine' ⟨_, Rg.kdi_mk ?l5 ?hk5 ?hf5, Rg.wr1 ?t5 (Rg.wpair_mk ?p5_0)⟩; (case l5 => k_is); (case hk5 => rfl); (case hf5 => rfl); (case t5 => k_is); (case p5_0 => k_is))
    (case r_6 => refine' ⟨_, Rg.kdi_mk ?l6 ?hk6 ?hf6, Rg.wr1 ?t6 (Rg.wpair_mk ?p6_0)⟩; (case l6 => k_is); (case hk6 => rfl); (case hf6 => rfl); (case t6 => k_is); (case p6_0 => k_is))
    (case r_7 => refine' ⟨_, Rg.kdi_mk ?l7 ?hk7 ?hf7, Rg.wr1 ?t7 (Rg.wpair_mk ?p7_0)⟩; (case l7 => k_is); (case hk7 => rfl); (case hf7 => rfl); (case t7 => k_is); (case p7_0 => k_is))
    (case r_8 => refine' ⟨_, Rg.kdi_mk ?l8 ?hk8 ?hf8, Rg.wr0 ?t8 ⟩; (case l8 => k_is); (case hk8 => rfl); (case hf8 => rfl); (case t8 => k_is))
    (case r_9 => refine' ⟨_, Rg.kdi_mk ?l9 ?hk9 ?hf9, Rg.wr1 ?t9 (Rg.wpair_mk ?p9_0)⟩; (case l9 => k_is); (case hk9 => rfl); (case hf9 => rfl); (case t9 => k_is); (case p9_0 => k_is))
    (case r_10 => refine' ⟨_, Rg.kdi_mk ?l10 ?hk10 ?hf10, Rg.wr1 ?t10 (Rg.wpair_mk ?p10_0)⟩; (case l10 => k_is); (case hk10 => rfl); (case hf10 => rfl); (case t10 => k_is); (case p10_0 => k_is))
    (case r_11 => refine' ⟨_, Rg.kdi_mk ?l11 ?hk11 ?hf11, Rg.wr0 ?t11 ⟩; (case l11 => k_is); (case hk11 => rfl); (case hf11 => rfl); (case t11 => k_is))
    (case r_12 => refine' ⟨_, Rg.kdi_mk ?l12 ?hk12 ?hf12, Rg.wr1 ?t12 (Rg.wpair_mk ?p12_0)⟩; (case l12 => k_is); (case hk12 => rfl); (case hf12 => rfl); (case t12 => k_is); (case p12_0 => k_is))
    (case r_13 => refine' ⟨_, Rg.kdi_mk ?l13 ?hk13 ?hf13, Rg.wr0 ?t13 ⟩; (case l13 => k_is); (case hk13 => rfl); (case hf13 => rfl); (case t13 => k_is))
    (case r_14 => refine' ⟨_, Rg.kdi_mk ?l14 ?hk14 ?hf14, Rg.wr1 ?t14 (Rg.wpair_mk ?p14_0)⟩; (case l14 => k_is); (case hk14 => rfl); (case hf14 => rfl); (case t14 => k_is); (case p14_0 => k_is))
    (case r_15 => refine' ⟨_, Rg.kdi_mk ?l15 ?hk15 ?hf15, Rg.wr0 ?t15 ⟩; (case l15 => k_is); (case hk15 => rfl); (case hf15 => rfl); (case t15 => k_is))
    (case d_2 => refine' Rg.kdi_mk ?ld_2 ?hkd_2 ?hfd_2; (case ld_2 => k_is); (case hkd_2 => rfl); (case hfd_2 => rfl))
    (case d_3 => refine' Rg.kdi_mk ?ld_3 ?hkd_3 ?hfd_3; (case ld_3 => k_is); (case hkd_3 => rfl); (case hfd_3 => rfl))
    (case d_4 => refine' Rg.kdi_mk ?ld_4 ?hkd_4 ?hfd_4; (case ld_4 => k_is); (case hkd_4 => rfl); (case hfd_4 => rfl))
    (case d_5 => refine' Rg.kdi_mk ?ld_5 ?hkd_5 ?hfd_5; (case ld_5 => k_is); (case hkd_5 => rfl); (case hfd_5 => rfl))
    (case d_6 => refine' Rg.kdi_mk ?ld_6 ?hkd_6 ?hfd_6; (case ld_6 => k_is); (case hkd_6 => rfl); (case hfd_6 => rfl))
    (case d_7 => refine' Rg.kdi_mk ?ld_7 ?hkd_7 ?hfd_7; (case ld_7 => k_is); (case hkd_7 => rfl); (case hfd_7 => rfl))
    (case d_8 => refine' Rg.kdi_mk ?ld_8 ?hkd_8 ?hfd_8; (case ld_8 => k_is); (case hkd_8 => rfl); (case hfd_8 => rfl))
    (case d_9 => refine' Rg.kdi_mk ?ld_9 ?hkd_9 ?hfd_9; (case ld_9 => k_is); (case hkd_9 => rfl); (case hfd_9 => rfl))
    (case d_10 => refine' Rg.kdi_mk ?ld_10 ?hkd_10 ?hfd_10; (case ld_10 => k_is); (case hkd_10 => rfl); (case hfd_10 => rfl))
    (case d_11 => refine' Rg.kdi_mk ?ld_11 ?hkd_11 ?hfd_11; (case ld_11 => k_is); (case hkd_11 => rfl); (case hfd_11 => rfl))
    (case d_12 => refine' Rg.kdi_mk ?ld_12 ?hkd_12 ?hfd_12; (case ld_12 => k_is); (case hkd_12 => rfl); (case hfd_12 => rfl))
    (case d_13 => refine' Rg.kdi_mk ?ld_13 ?hkd_13 ?hfd_13; (case ld_13 => k_is); (case hkd_13 => rfl); (case hfd_13 => rfl))
    (case d_14 => refine' Rg.kdi_mk ?ld_14 ?hkd_14 ?hfd_14; (case ld_14 => k_is); (case hkd_14 => rfl); (case hfd_14 => rfl))
    (case d_15 => refine' Rg.kdi_mk ?ld_15 ?hkd_15 ?hfd_15; (case ld_15 => k_is); (case hkd_15 => rfl); (case hfd_15 => rfl))
    (case ne1 => decide)
    (case ne2 => decide)
    (case ne3 => decide)
    (case ne4 => decide)
  case S =>
    intro K H xs a hO hwi hask hx
    cases hx with
    | cons h1 h2 =>
      cases h2
      cases h1 with
      | lst hs ha =>
        have e := L2.ints_dw a.1 _ ha
        subst e
        exact ⟨_, a.1, rfl, hs, hask, fun H' p hp => .lst (L2.SqL.of hp) (L2.dw_ints _)⟩
#print axioms PySem.Challenge.cw_cardringsdesk_s01_answers_holds

