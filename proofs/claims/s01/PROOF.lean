import PyProof.Rows.All
import Wide.All
import OpenK.AllK
import Wide.FinOn
import Open.SpecLaws
import KE.OsGo
import HandS.ForSpec
import PySem.Challenge.RW_wrapwindow_s01_answers
import PyVbtwad
import HandS.ForMost
import HandS.Codes
import HandS.Zip
import HandS.CallLocal
import HandS.More
import KE.DatumOrd
import HandS.Conv
import PyProof.Rows.CallKwBuiltin
import KE.GoesEnumKw
set_option Elab.async false
set_option maxRecDepth 100000
set_option linter.unusedVariables false
set_option maxHeartbeats 4000000
namespace W170
open Vbtwad

/-! ### the mirror: the program's own objects as plain data -/
structure Pk where
  fs : List Int
  ck : Int
  ser : Nat
structure Ch where
  life : Nat
  sent : Nat
  pk : List Pk
structure Sn where
  items : List (List Int)
  base : Nat
  next : Nat
  acked : Nat → Bool
  dropped : Nat → Bool
structure Rc where
  x : Nat
  rcv : Nat → Option (List Int)
  del : List (Nat × List Int)
  cnt : Nat
structure Lk where
  W : Nat
  M : Nat
  ord : Bool
  safe : Bool
  fr : Ch
  ac : Ch
  sn : Sn
  rc : Rc

def mkPk (fs : List Int) (ser : Nat) : Pk := ⟨fs, checksumOf fs, ser⟩
def Ch.send (c : Ch) (fs : List Int) : Ch := { c with sent := c.sent + 1, pk := (c.pk ++ [mkPk fs c.sent]).filter fun p => decide (c.sent + 1 ≤ p.ser + c.life) }
def setN (p : Nat → Bool) (n : Nat) : Nat → Bool := fun m => if m = n then true else p m
def setO (p : Nat → Option (List Int)) (n : Nat) (v : List Int) : Nat → Option (List Int) := fun m => if m = n then some v else p m
def Sn.content (s : Sn) (a : Nat) : List Int := if s.dropped a = true then [] else s.items.getD a []
def Sn.frame (M : Nat) (s : Sn) (a : Nat) : List Int := ((a % M : Nat) : Int) :: s.content a
def numMeant (field : Int) (M lo cnt : Nat) : Option Nat := ((List.range cnt).map fun i => lo + i).find? fun x => ((x % M : Nat) : Int) == field
def Sn.fillN (M : Nat) : Nat → Sn → Ch → Sn × Ch
  | 0, s, c => (s, c)
  | k + 1, s, c => Sn.fillN M k { s with next := s.next + 1 } (c.send (s.frame M s.next))
def Sn.room (W : Nat) (s : Sn) : Nat := min (s.base + W) s.items.length - s.next
def Sn.fill (W M : Nat) (s : Sn) (c : Ch) : Sn × Ch := Sn.fillN M (s.room W) s c
def ackAll (s : Sn) (fs : List Int) (y : Nat) : Nat → Bool := fun n => s.acked n || (decide (s.base ≤ n) && decide (n < y)) || (decide (y < n) && decide (n < s.next) && (fs.getD (n - y) 0 == 1))
def Sn.recvAck (M : Nat) (s : Sn) (fs : List Int) : Sn × Nat := match numMeant (fs.headD (-1)) M s.base (s.next + 1 - s.base) with
  | none => (s, 1)
  | some y => ({ s with acked := ackAll s fs y }, 2)
def Sn.adv : Nat → Sn → Sn
  | 0, s => s
  | f + 1, s => if s.acked s.base = true then Sn.adv f { s with base := s.base + 1 } else s
def Rc.pass (ord : Bool) : Nat → Rc → Rc
  | 0, r => r
  | f + 1, r => match r.rcv r.x with
    | none => r
    | some it => Rc.pass ord f { r with x := r.x + 1, del := if ord = true then r.del ++ [(r.x, it)] else r.del }
def Rc.put (ord : Bool) (r : Rc) (n : Nat) (it : List Int) : Rc := { r with rcv := setO r.rcv n it, del := if ord = true then r.del else r.del ++ [(n, it)], cnt := r.cnt + 1 }
def Rc.recv (W M : Nat) (ord : Bool) (r : Rc) (fs : List Int) : Rc × Nat := match numMeant (fs.headD (-1)) M r.x W with
  | none => (r, 1)
  | some n => if ((r.rcv n).isSome || fs.length == 1) = true then (r, 1) else (Rc.pass ord W (r.put ord n (fs.drop 1)), 2)
def Rc.ack (W M : Nat) (r : Rc) : List Int := ((r.x % M : Nat) : Int) :: (List.range (W - 1)).map fun i => if (r.rcv (r.x + 1 + i)).isSome = true then 1 else 0

/-! ### the mirror and the specification's link -/
def pkS (p : Packet) : List Int × Int × Nat := (p.fields, p.checksum, p.serial)
def pkM (p : Pk) : List Int × Int × Nat := (p.fs, p.ck, p.ser + 1)
structure RCh (c : Ch) (life : Nat) (l : List Packet) (sent : Nat) : Prop where
  life : c.life = life
  sent : c.sent = sent
  pk : l.map pkS = c.pk.map pkM
structure RSn (s : Sn) (l : Link) : Prop where
  items : l.items = s.items
  base : l.base = s.base
  le : s.base ≤ s.next
  opn : l.openItems = (List.range (s.next - s.base)).map fun i => ⟨s.content (s.base + i), s.acked (s.base + i)⟩
  queue : l.queue = s.items.drop s.next
  nextle : s.next ≤ s.items.length
  ackin : ∀ n, s.acked n = true → n < s.next
  dropin : ∀ n, s.dropped n = true → n < s.next
  win : s.next - s.base ≤ l.parameters.window
structure RRc (r : Rc) (l : Link) : Prop where
  x : l.firstMissing = r.x
  buf : ∀ n, l.buffered.find? (fun y => y.1 == n) = if r.x ≤ n then (r.rcv n).map (fun it => (n, it)) else none
  del : l.delivered = r.del
  bnd : ∀ n, (r.rcv n).isSome = true → n < r.x + l.parameters.window
structure RL (m : Lk) (l : Link) : Prop where
  par : l.parameters = ⟨m.W, m.M, m.fr.life, m.ac.life, m.ord⟩
  safe : m.safe = (missingCondition l.parameters == 0)
  fr : RCh m.fr l.parameters.frameLifetime l.frames l.framesSent
  ac : RCh m.ac l.parameters.ackLifetime l.acks l.acksSent
  sn : RSn m.sn l
  rc : RRc m.rc l

theorem numMeant_eq (l : Link) (lo cnt : Nat) (f : Int) : resolveNumber l lo cnt f = numMeant f l.parameters.modulus lo cnt := rfl
theorem numMeant_some {f : Int} {M lo cnt n : Nat} (h : numMeant f M lo cnt = some n) : lo ≤ n ∧ n < lo + cnt ∧ ((n % M : Nat) : Int) = f := by
  unfold numMeant at h
  have h1 := List.mem_of_find?_eq_some h
  have h2 := List.find?_some h
  obtain ⟨i, hi, rfl⟩ := List.mem_map.mp h1
  have := List.mem_range.mp hi
  exact ⟨by omega, by omega, eq_of_beq h2⟩

theorem filter_map_pk {p q : Nat → Bool} (h : ∀ n, p (n + 1) = q n) : ∀ (l : List Packet) (k : List Pk), l.map pkS = k.map pkM → (l.filter fun f => p f.serial).map pkS = (k.filter fun f => q f.ser).map pkM
  | [], [], _ => rfl
  | [], _ :: _, e => by simp at e
  | _ :: _, [], e => by simp at e
  | a :: l, b :: k, e => by
    have e' : pkS a :: l.map pkS = pkM b :: k.map pkM := e
    obtain ⟨e1, e2⟩ := List.cons.inj e'
    have es : a.serial = b.ser + 1 := congrArg (fun t => t.2.2) e1
    have ih := filter_map_pk h l k e2
    rw [List.filter_cons, List.filter_cons, es, h]
    by_cases c : q b.ser = true
    · rw [if_pos c, if_pos c, List.map_cons, List.map_cons, ih, e1]
    · rw [if_neg c, if_neg c, ih]
theorem RCh.send {c : Ch} {life sent : Nat} {l : List Packet} (R : RCh c life l sent) (fs : List Int) (o : List Int) (t : Nat) :
    RCh (c.send fs) life (dropExpired life (sent + 1) (l ++ [⟨fs, checksumOf fs, o, t, sent + 1⟩])) (sent + 1) := by
  obtain ⟨rfl, rfl, e⟩ := R
  refine ⟨rfl, rfl, ?_⟩
  unfold dropExpired Ch.send
  refine filter_map_pk (p := fun n => decide (c.sent + 1 < n + c.life)) (q := fun n => decide (c.sent + 1 ≤ n + c.life)) (fun n => ?_) _ _ ?_
  · by_cases z : c.sent + 1 ≤ n + c.life
    · rw [decide_eq_true z, decide_eq_true (by omega)]
    · rw [decide_eq_false z, decide_eq_false (by omega)]
  · rw [List.map_append, List.map_append, e]
    rfl

end W170

namespace W170
open Vbtwad

/-! ### the sender -/
theorem opn_len {s : Sn} {l : Link} (R : RSn s l) : l.openItems.length = s.next - s.base := by
  rw [R.opn, List.length_map, List.length_range]
theorem next_eq {s : Sn} {l : Link} (R : RSn s l) : nextNumber l = s.next := by
  have := R.le
  unfold nextNumber
  rw [opn_len R, R.base]
  omega
/-- all of a link but what sending a frame changes -/
structure FrOnly (l l' : Link) : Prop where
  par : l'.parameters = l.parameters
  items : l'.items = l.items
  base : l'.base = l.base
  opn : l'.openItems = l.openItems
  queue : l'.queue = l.queue
  x : l'.firstMissing = l.firstMissing
  buf : l'.buffered = l.buffered
  del : l'.delivered = l.delivered
  acks : l'.acks = l.acks
  acksSent : l'.acksSent = l.acksSent
theorem sendFrame_only (l : Link) (a : Nat) (i : Item) : FrOnly l (sendFrame l a i) := ⟨rfl, rfl, rfl, rfl, rfl, rfl, rfl, rfl, rfl, rfl⟩
theorem send_fr {c : Ch} {l : Link} (R : RCh c l.parameters.frameLifetime l.frames l.framesSent) {fs : List Int} (a : Nat) (i : Item) (h : fs = ((a % l.parameters.modulus : Nat) : Int) :: i) :
    RCh (c.send fs) (sendFrame l a i).parameters.frameLifetime (sendFrame l a i).frames (sendFrame l a i).framesSent := by
  subst h
  exact R.send _ _ _
/-- sender and frames together, the window's bound apart -/
structure RSF (W M : Nat) (s : Sn) (c : Ch) (l : Link) : Prop where
  w : l.parameters.window = W
  m : l.parameters.modulus = M
  sn : RSn s l
  fr : RCh c l.parameters.frameLifetime l.frames l.framesSent

theorem content_next {s : Sn} {l : Link} (R : RSn s l) (n : Nat) (h : s.next ≤ n) : s.content n = s.items.getD n [] := by
  unfold Sn.content
  rw [if_neg]
  intro e
  have := R.dropin n e
  omega
theorem drop_cons {α : Type} {l : List α} {n : Nat} {d : α} (h : n < l.length) : l.drop n = l.getD n d :: l.drop (n + 1) := by
  rw [List.getD_eq_getElem?_getD, List.getElem?_eq_getElem h]
  exact List.drop_eq_getElem_cons h
theorem opn_succ {α : Type} (f : Nat → α) (k : Nat) : (List.range (k + 1)).map f = (List.range k).map f ++ [f k] := by
  rw [List.range_succ, List.map_append]
  rfl
/-- one item enters the window -/
theorem enter {W M : Nat} {s : Sn} {c : Ch} {l : Link} (R : RSF W M s c l) {i : Item} {r : List Item} (q : l.queue = i :: r) (hw : ¬ W ≤ l.openItems.length) :
    RSF W M { s with next := s.next + 1 } (c.send (s.frame M s.next)) (sendFrame { l with openItems := l.openItems ++ [⟨i, false⟩], queue := r } (nextNumber l) i) := by
  obtain ⟨w, m, S, F⟩ := R
  have hl : s.next < s.items.length := by
    rcases Nat.lt_or_ge s.next s.items.length with h | h
    · exact h
    · rw [S.queue, List.drop_eq_nil_of_le h] at q
      cases q
  have hq := S.queue
  rw [q, drop_cons (d := []) hl] at hq
  obtain ⟨e1, e2⟩ := List.cons.inj hq
  have hc : s.content s.next = i := by rw [content_next S s.next (Nat.le_refl _), e1]
  have hle := S.le
  refine ⟨w, m, ⟨S.items, S.base, by show s.base ≤ s.next + 1; omega, ?_, e2, hl, fun n h => ?_, fun n h => ?_, ?_⟩, ?_⟩
  · show l.openItems ++ [⟨i, false⟩] = (List.range (s.next + 1 - s.base)).map fun i => ⟨s.content (s.base + i), s.acked (s.base + i)⟩
    rw [show s.next + 1 - s.base = (s.next - s.base) + 1 by omega, opn_succ, ← S.opn]
    congr 1
    rw [show s.base + (s.next - s.base) = s.next by omega, hc]
    cases e : s.acked s.next with
    | false => rfl
    | true => exact absurd (S.ackin _ e) (Nat.lt_irrefl _)
  · have := S.ackin n h
    show n < s.next + 1
    omega
  · have := S.dropin n h
    show n < s.next + 1
    omega
  · have := opn_len S
    show s.next + 1 - s.base ≤ l.parameters.window
    omega
  · refine send_fr (l := { l with openItems := l.openItems ++ [⟨i, false⟩], queue := r }) F (nextNumber l) i ?_
    show s.frame M s.next = ((nextNumber l % l.parameters.modulus : Nat) : Int) :: i
    unfold Sn.frame
    rw [hc, next_eq S, m]
theorem fill_sim {W M : Nat} : ∀ (k f : Nat) {s : Sn} {c : Ch} {l : Link}, RSF W M s c l → k = s.room W → k ≤ f → RSF W M (Sn.fillN M k s c).1 (Sn.fillN M k s c).2 (fillWindow f l)
  | k, 0, s, c, l, R, hk, hf => by
    obtain rfl : k = 0 := by omega
    exact R
  | k, f + 1, s, c, l, R, hk, hf => by
    have hS := R.sn
    unfold fillWindow
    split
    · rename_i q
      have e : s.items.drop s.next = [] := hS.queue.symm.trans q
      have hl : s.items.length ≤ s.next := List.drop_eq_nil_iff.mp e
      obtain rfl : k = 0 := by
        unfold Sn.room at hk
        omega
      exact R
    · rename_i i r q
      have ol := opn_len hS
      have hle := hS.le
      by_cases hw : W ≤ l.openItems.length
      · rw [if_pos (by rw [R.w]; exact hw)]
        obtain rfl : k = 0 := by
          unfold Sn.room at hk
          omega
        exact R
      · rw [if_neg (by rw [R.w]; exact hw)]
        have hl : s.next < s.items.length := by
          rcases Nat.lt_or_ge s.next s.items.length with h | h
          · exact h
          · rw [hS.queue, List.drop_eq_nil_of_le h] at q
            cases q
        have R' := enter R q hw
        obtain ⟨k', rfl⟩ : ∃ k', k = k' + 1 := ⟨k - 1, by unfold Sn.room at hk; omega⟩
        exact fill_sim k' f R' (by unfold Sn.room at hk ⊢; show k' = min (s.base + W) s.items.length - (s.next + 1); omega) (by omega)
theorem room_queue {W M : Nat} {s : Sn} {c : Ch} {l : Link} (R : RSF W M s c l) : s.room W ≤ l.queue.length := by
  rw [R.sn.queue, List.length_drop]
  unfold Sn.room
  omega
theorem fill_ok {W M : Nat} {s : Sn} {c : Ch} {l : Link} (R : RSF W M s c l) : RSF W M (s.fill W M c).1 (s.fill W M c).2 (fillWindow l.queue.length l) :=
  fill_sim _ _ R rfl (room_queue R)
theorem fillN_fr (M : Nat) : ∀ (k : Nat) (s : Sn) (c : Ch), (Sn.fillN M k s c).1 = { s with next := s.next + k } ∧ (Sn.fillN M k s c).2.sent = c.sent + k ∧ (Sn.fillN M k s c).2.life = c.life
  | 0, s, c => ⟨rfl, rfl, rfl⟩
  | k + 1, s, c => by
    obtain ⟨h1, h2, h3⟩ := fillN_fr M k { s with next := s.next + 1 } (c.send (s.frame M s.next))
    refine ⟨?_, ?_, h3⟩
    · show (Sn.fillN M k { s with next := s.next + 1 } (c.send (s.frame M s.next))).1 = _
      rw [h1]
      show ({ s with next := s.next + 1 + k } : Sn) = { s with next := s.next + (k + 1) }
      rw [show s.next + 1 + k = s.next + (k + 1) by omega]
    · show (Sn.fillN M k { s with next := s.next + 1 } (c.send (s.frame M s.next))).2.sent = _
      rw [h2]
      show c.sent + 1 + k = _
      omega
/-- only sender and frames change -/
structure SFOnly (l l' : Link) : Prop where
  par : l'.parameters = l.parameters
  x : l'.firstMissing = l.firstMissing
  buf : l'.buffered = l.buffered
  del : l'.delivered = l.delivered
  acks : l'.acks = l.acks
  acksSent : l'.acksSent = l.acksSent
theorem SFOnly.trans {a b c : Link} (h : SFOnly a b) (k : SFOnly b c) : SFOnly a c := ⟨k.par.trans h.par, k.x.trans h.x, k.buf.trans h.buf, k.del.trans h.del, k.acks.trans h.acks, k.acksSent.trans h.acksSent⟩
theorem fill_only : ∀ (f : Nat) (l : Link), SFOnly l (fillWindow f l)
  | 0, l => ⟨rfl, rfl, rfl, rfl, rfl, rfl⟩
  | f + 1, l => by
    unfold fillWindow
    split
    · exact ⟨rfl, rfl, rfl, rfl, rfl, rfl⟩
    · rename_i i r q
      by_cases hw : l.parameters.window ≤ l.openItems.length
      · rw [if_pos hw]
        exact ⟨rfl, rfl, rfl, rfl, rfl, rfl⟩
      · rw [if_neg hw]
        exact SFOnly.trans (b := sendFrame { l with openItems := l.openItems ++ [⟨i, false⟩], queue := r } (nextNumber l) i) ⟨rfl, rfl, rfl, rfl, rfl, rfl⟩ (fill_only f _)

/-! ### an acknowledgement comes -/
theorem close_adv : ∀ (k : Nat) (s : Sn), k = s.next - s.base → (∀ n, s.acked n = true → n < s.next) →
    closeAcknowledged ((List.range k).map fun i => ⟨s.content (s.base + i), s.acked (s.base + i)⟩) s.base =
      ((Sn.adv k s).base, (List.range ((Sn.adv k s).next - (Sn.adv k s).base)).map fun i => ⟨(Sn.adv k s).content ((Sn.adv k s).base + i), (Sn.adv k s).acked ((Sn.adv k s).base + i)⟩)
  | 0, s, hk, ha => by
    show (s.base, _) = (s.base, (List.range (s.next - s.base)).map fun i => _)
    rw [← hk]
    rfl
  | k + 1, s, hk, ha => by
    have e : (List.range (k + 1)).map (fun i => (⟨s.content (s.base + i), s.acked (s.base + i)⟩ : OpenItem)) =
        ⟨s.content s.base, s.acked s.base⟩ :: (List.range k).map fun i => ⟨s.content (s.base + 1 + i), s.acked (s.base + 1 + i)⟩ := by
      rw [List.range_succ_eq_map, List.map_cons, List.map_map]
      congr 1
      refine List.map_congr_left fun i _ => ?_
      show (⟨s.content (s.base + (i + 1)), s.acked (s.base + (i + 1))⟩ : OpenItem) = ⟨s.content (s.base + 1 + i), s.acked (s.base + 1 + i)⟩
      rw [show s.base + (i + 1) = s.base + 1 + i by omega]
    rw [e]
    unfold closeAcknowledged Sn.adv
    by_cases c : s.acked s.base = true
    · rw [if_pos c, if_pos (show (⟨s.content s.base, s.acked s.base⟩ : OpenItem).acknowledged = true from c)]
      exact close_adv k { s with base := s.base + 1 } (by show k = s.next - (s.base + 1); omega) ha
    · rw [if_neg c, if_neg (show ¬ (⟨s.content s.base, s.acked s.base⟩ : OpenItem).acknowledged = true from c), ← e, ← hk]
theorem adv_same : ∀ (k : Nat) (s : Sn), (∀ n, s.acked n = true → n < s.next) → s.base ≤ s.next → s.base ≤ (Sn.adv k s).base ∧ (Sn.adv k s).base ≤ s.next ∧ (Sn.adv k s) = { s with base := (Sn.adv k s).base }
  | 0, s, _, h => ⟨Nat.le_refl _, h, rfl⟩
  | k + 1, s, ha, h => by
    unfold Sn.adv
    by_cases c : s.acked s.base = true
    · rw [if_pos c]
      have := ha _ c
      obtain ⟨h1, h2, h3⟩ := adv_same k { s with base := s.base + 1 } ha (by show s.base + 1 ≤ s.next; omega)
      refine ⟨?_, h2, ?_⟩
      · have h1' : s.base + 1 ≤ (Sn.adv k { s with base := s.base + 1 }).base := h1
        omega
      · exact h3
    · rw [if_neg c]
      exact ⟨Nat.le_refl _, h, rfl⟩
def ackStep (W M : Nat) (s : Sn) (c : Ch) (fs : List Int) (ok : Bool) : (Sn × Ch) × Nat :=
  if ok = false then ((s, c), 0) else match s.recvAck M fs with
    | (s1, st) => ((Sn.adv (s1.next - s1.base) s1).fill W M c, st)
theorem zip_opn (f : Nat → OpenItem) (g : OpenItem → Nat → OpenItem) (k : Nat) : ((List.range k).map f).zipIdx.map (fun x => g x.1 x.2) = (List.range k).map fun i => g (f i) i := by
  apply List.ext_getElem?
  intro i
  rw [List.getElem?_map, List.getElem?_zipIdx, List.getElem?_map, List.getElem?_map]
  by_cases h : i < k
  · rw [List.getElem?_range h]
    simp
  · rw [List.getElem?_eq_none (by rw [List.length_range]; omega)]
    rfl
theorem getD_drop1 {fs : List Int} {k : Nat} (h : 0 < k) : (fs.drop 1).getD (k - 1) 0 = fs.getD k 0 := by
  rw [List.getD_eq_getElem?_getD, List.getD_eq_getElem?_getD, List.getElem?_drop]
  congr 2
  omega
theorem acks_eq {s : Sn} {fs : List Int} {y i : Nat} (hy : s.base ≤ y) (hi : s.base + i < s.next) :
    (s.acked (s.base + i) || acknowledges y (fs.drop 1) (s.base + i)) = ackAll s fs y (s.base + i) := by
  unfold acknowledges ackAll
  rw [decide_eq_true (show s.base ≤ s.base + i by omega), Bool.true_and, decide_eq_true hi, Bool.and_true, Bool.or_assoc]
  by_cases c : y < s.base + i
  · rw [decide_eq_true c, Bool.true_and, Bool.true_and, ← getD_drop1 (fs := fs) (show 0 < s.base + i - y by omega)]
  · rw [decide_eq_false c, Bool.false_and, Bool.false_and]
theorem adv_none (s : Sn) (k : Nat) (h : s.acked s.base = false) : Sn.adv k s = s := by
  cases k with
  | zero => rfl
  | succ k =>
    unfold Sn.adv
    rw [h, if_neg Bool.false_ne_true]
end W170

namespace W170
open Vbtwad

/-- the sender's part of receiveAck, from an intact acknowledgement -/
theorem recvAck_sim {W M : Nat} {s : Sn} {c : Ch} {l : Link} (R : RSF W M s c l) (p : Packet) (hb : s.acked s.base = false) (hw : s.room W = 0) :
    RSF W M (ackStep W M s c p.fields (isIntact p)).1.1 (ackStep W M s c p.fields (isIntact p)).1.2 (receiveAck l p).1 ∧ (receiveAck l p).2 = (ackStep W M s c p.fields (isIntact p)).2 ∧ SFOnly l (receiveAck l p).1 := by
  have S := R.sn
  have fill0 : s.fill W M c = (s, c) := by
    unfold Sn.fill
    rw [hw]
    rfl
  unfold ackStep receiveAck
  by_cases hi : isIntact p = false
  · rw [if_pos hi, if_pos hi]
    exact ⟨R, rfl, ⟨rfl, rfl, rfl, rfl, rfl, rfl⟩⟩
  · rw [if_neg hi, if_neg hi]
    have en : resolveNumber l l.base (l.openItems.length + 1) (p.fields.headD (-1)) = numMeant (p.fields.headD (-1)) M s.base (s.next + 1 - s.base) := by
      have hle := S.le
      rw [numMeant_eq, opn_len S, S.base, R.m, show s.next - s.base + 1 = s.next + 1 - s.base by omega]
    rw [en]
    unfold Sn.recvAck
    cases e : numMeant (p.fields.headD (-1)) M s.base (s.next + 1 - s.base) with
    | none =>
      dsimp only
      rw [adv_none s _ hb, fill0]
      exact ⟨R, rfl, ⟨rfl, rfl, rfl, rfl, rfl, rfl⟩⟩
    | some y =>
      dsimp only
      obtain ⟨h1, h2, _⟩ := numMeant_some e
      have hle := S.le
      have hA : ∀ n, ackAll s p.fields y n = true → n < s.next := fun n h => by
        unfold ackAll at h
        rcases Bool.or_eq_true_iff.mp h with h | h
        · rcases Bool.or_eq_true_iff.mp h with h | h
          · exact S.ackin n h
          · have h5 := of_decide_eq_true (Bool.and_eq_true_iff.mp h).2
            omega
        · exact of_decide_eq_true (Bool.and_eq_true_iff.mp (Bool.and_eq_true_iff.mp h).1).2
      let s1 : Sn := { s with acked := ackAll s p.fields y }
      have eo : (l.openItems.zipIdx.map fun x => ({ x.1 with acknowledged := x.1.acknowledged || acknowledges y (p.fields.drop 1) (l.base + x.2) } : OpenItem)) =
          (List.range (s.next - s.base)).map fun i => ⟨s1.content (s1.base + i), s1.acked (s1.base + i)⟩ := by
        rw [S.opn, S.base, zip_opn (fun i => ⟨s.content (s.base + i), s.acked (s.base + i)⟩) (fun o i => ({ o with acknowledged := o.acknowledged || acknowledges y (p.fields.drop 1) (s.base + i) } : OpenItem))]
        refine List.map_congr_left fun i hi => ?_
        have hi' := List.mem_range.mp hi
        show (⟨s.content (s.base + i), s.acked (s.base + i) || acknowledges y (p.fields.drop 1) (s.base + i)⟩ : OpenItem) = ⟨s.content (s.base + i), ackAll s p.fields y (s.base + i)⟩
        rw [acks_eq h1 (by omega)]
      have ec := close_adv (s.next - s.base) s1 rfl hA
      rw [eo, S.base]
      have ec' : closeAcknowledged ((List.range (s.next - s.base)).map fun i => (⟨s1.content (s1.base + i), s1.acked (s1.base + i)⟩ : OpenItem)) s.base = _ := ec
      rw [ec']
      obtain ⟨a1, a2, a3⟩ := adv_same (s.next - s.base) s1 hA hle
      have a1' : s.base ≤ (Sn.adv (s.next - s.base) s1).base := a1
      have a2' : (Sn.adv (s.next - s.base) s1).base ≤ s.next := a2
      have n1 : (Sn.adv (s.next - s.base) s1).next = s.next := by rw [a3]
      have d1 : (Sn.adv (s.next - s.base) s1).dropped = s.dropped := by rw [a3]
      have k1 : (Sn.adv (s.next - s.base) s1).acked = ackAll s p.fields y := by rw [a3]
      have i1 : (Sn.adv (s.next - s.base) s1).items = s.items := by rw [a3]
      have R1 : RSF W M (Sn.adv (s.next - s.base) s1) c { l with base := (Sn.adv (s.next - s.base) s1).base, openItems := (List.range ((Sn.adv (s.next - s.base) s1).next - (Sn.adv (s.next - s.base) s1).base)).map fun i => ⟨(Sn.adv (s.next - s.base) s1).content ((Sn.adv (s.next - s.base) s1).base + i), (Sn.adv (s.next - s.base) s1).acked ((Sn.adv (s.next - s.base) s1).base + i)⟩ } := by
        refine ⟨R.w, R.m, ⟨by rw [i1]; exact S.items, rfl, by rw [n1]; exact a2', rfl, by rw [i1, n1]; exact S.queue, by rw [i1, n1]; exact S.nextle, fun n h => ?_, fun n h => ?_, ?_⟩, R.fr⟩
        · rw [n1]
          rw [k1] at h
          exact hA n h
        · rw [n1]
          rw [d1] at h
          exact S.dropin n h
        · rw [n1]
          have := S.win
          show s.next - (Sn.adv (s.next - s.base) s1).base ≤ l.parameters.window
          omega
      exact ⟨fill_ok R1, rfl, SFOnly.trans (b := { l with base := (Sn.adv (s.next - s.base) s1).base, openItems := (List.range ((Sn.adv (s.next - s.base) s1).next - (Sn.adv (s.next - s.base) s1).base)).map fun i => ⟨(Sn.adv (s.next - s.base) s1).content ((Sn.adv (s.next - s.base) s1).base + i), (Sn.adv (s.next - s.base) s1).acked ((Sn.adv (s.next - s.base) s1).base + i)⟩ }) ⟨rfl, rfl, rfl, rfl, rfl, rfl⟩ (fill_only _ _)⟩

/-! ### the receiver -/
theorem isBuf_eq {r : Rc} {l : Link} (R : RRc r l) {n : Nat} (h : r.x ≤ n) : isBuffered l n = (r.rcv n).isSome := by
  have e : isBuffered l n = (l.buffered.find? fun y => y.1 == n).isSome := by
    unfold isBuffered
    induction l.buffered with
    | nil => rfl
    | cons a t ih =>
      rw [List.any_cons, List.find?_cons, ih]
      cases a.1 == n <;> rfl
  rw [e, R.buf n, if_pos h]
  cases r.rcv n <;> rfl
theorem find_app {l : List (Nat × Item)} {n k : Nat} {it : Item} : (l ++ [(k, it)]).find? (fun y => y.1 == n) = match l.find? (fun y => y.1 == n) with
    | some y => some y
    | none => if k == n then some (k, it) else none := by
  rw [List.find?_append]
  cases l.find? (fun y => y.1 == n) with
  | some y => rfl
  | none =>
    rw [Option.none_or, List.find?_cons]
    cases k == n <;> rfl
theorem find_filter {l : List (Nat × Item)} {n k : Nat} : (l.filter fun z => z.1 != k).find? (fun y => y.1 == n) = if n = k then none else l.find? (fun y => y.1 == n) := by
  induction l with
  | nil => simp
  | cons a l ih =>
    rw [List.filter_cons]
    by_cases c : a.1 = k
    · rw [if_neg (by simp [c]), ih, List.find?_cons]
      by_cases z : n = k
      · rw [if_pos z, if_pos z]
      · rw [if_neg z, if_neg z]
        have : (a.1 == n) = false := beq_eq_false_iff_ne.mpr (by rw [c]; exact fun q => z q.symm)
        rw [this]
    · rw [if_pos (by simp [c]), List.find?_cons, List.find?_cons, ih]
      by_cases q : a.1 = n
      · have z : ¬ n = k := fun z => c (q.trans z)
        rw [q, beq_self_eq_true, if_neg z, if_neg z]
        all_goals rfl
      · rw [beq_eq_false_iff_ne.mpr q]
/-- what the receiver's doings leave alone -/
structure RcOnly (l l' : Link) : Prop where
  par : l'.parameters = l.parameters
  items : l'.items = l.items
  base : l'.base = l.base
  opn : l'.openItems = l.openItems
  queue : l'.queue = l.queue
  frames : l'.frames = l.frames
  framesSent : l'.framesSent = l.framesSent
  acks : l'.acks = l.acks
  acksSent : l'.acksSent = l.acksSent
theorem RcOnly.trans {a b c : Link} (h : RcOnly a b) (k : RcOnly b c) : RcOnly a c := ⟨k.par.trans h.par, k.items.trans h.items, k.base.trans h.base, k.opn.trans h.opn, k.queue.trans h.queue, k.frames.trans h.frames, k.framesSent.trans h.framesSent, k.acks.trans h.acks, k.acksSent.trans h.acksSent⟩
theorem advance_only : ∀ (f : Nat) (l : Link), RcOnly l (advance f l)
  | 0, l => ⟨rfl, rfl, rfl, rfl, rfl, rfl, rfl, rfl, rfl⟩
  | f + 1, l => by
    unfold advance
    split
    · exact ⟨rfl, rfl, rfl, rfl, rfl, rfl, rfl, rfl, rfl⟩
    · rename_i y _
      exact RcOnly.trans (b := { l with firstMissing := l.firstMissing + 1, buffered := l.buffered.filter (fun z => z.1 != l.firstMissing), delivered := if l.parameters.ordered = true then l.delivered ++ [y] else l.delivered }) ⟨rfl, rfl, rfl, rfl, rfl, rfl, rfl, rfl, rfl⟩ (advance_only f _)
theorem filter_lt {l : List (Nat × Item)} {k : Nat} {y : Nat × Item} (h : l.find? (fun z => z.1 == k) = some y) : (l.filter fun z => z.1 != k).length < l.length := by
  have h1 := List.mem_of_find?_eq_some h
  have h2 : (y.1 == k) = true := List.find?_some (p := fun z : Nat × Item => z.1 == k) h
  have h3 : y.1 = k := eq_of_beq h2
  rcases Nat.lt_or_eq_of_le (List.length_filter_le (fun z => z.1 != k) l) with q | q
  · exact q
  · have q' := List.length_filter_eq_length_iff.mp q y h1
    rw [h3] at q'
    simp at q'
theorem pass_cnt (ord : Bool) : ∀ (f : Nat) (r : Rc), (Rc.pass ord f r).cnt = r.cnt ∧ (Rc.pass ord f r).rcv = r.rcv ∧ r.x ≤ (Rc.pass ord f r).x
  | 0, r => ⟨rfl, rfl, Nat.le_refl _⟩
  | f + 1, r => by
    unfold Rc.pass
    split
    · exact ⟨rfl, rfl, Nat.le_refl _⟩
    · rename_i it _
      obtain ⟨h1, h2, h3⟩ := pass_cnt ord f { r with x := r.x + 1, del := if ord = true then r.del ++ [(r.x, it)] else r.del }
      exact ⟨h1, h2, by have h3' : r.x + 1 ≤ _ := h3; omega⟩
/-- the receiver between the storing and the passing: its bound stands at f -/
structure RPass (r : Rc) (l : Link) : Prop where
  x : l.firstMissing = r.x
  buf : ∀ n, l.buffered.find? (fun y => y.1 == n) = if r.x ≤ n then (r.rcv n).map (fun it => (n, it)) else none
  del : l.delivered = r.del
theorem pass_sim : ∀ (k f : Nat) {r : Rc} {l : Link}, RPass r l → l.buffered.length ≤ k → (∀ n, (r.rcv n).isSome = true → n < r.x + f) → RPass (Rc.pass l.parameters.ordered f r) (advance k l)
  | 0, f, r, l, R, hk, hf => by
    have e : l.buffered = [] := List.eq_nil_of_length_eq_zero (by omega)
    have hx := R.buf r.x
    rw [e, if_pos (Nat.le_refl _)] at hx
    have hn : r.rcv r.x = none := by
      cases q : r.rcv r.x with
      | none => rfl
      | some it =>
        rw [q] at hx
        cases hx
    have ep : Rc.pass l.parameters.ordered f r = r := by
      cases f with
      | zero => rfl
      | succ f =>
        unfold Rc.pass
        rw [hn]
    rw [ep]
    exact R
  | k + 1, f, r, l, R, hk, hf => by
    have hx := R.buf r.x
    rw [if_pos (Nat.le_refl _)] at hx
    unfold advance
    rw [R.x, hx]
    cases q : r.rcv r.x with
    | none =>
      have ep : Rc.pass l.parameters.ordered f r = r := by
        cases f with
        | zero => rfl
        | succ f =>
          unfold Rc.pass
          rw [q]
      rw [ep]
      exact R
    | some it =>
      have hb := hf r.x (by rw [q]; rfl)
      obtain ⟨f', rfl⟩ : ∃ f', f = f' + 1 := ⟨f - 1, by omega⟩
      show RPass (Rc.pass l.parameters.ordered (f' + 1) r) (advance k { l with firstMissing := r.x + 1, buffered := l.buffered.filter (fun z => z.1 != r.x), delivered := if l.parameters.ordered = true then l.delivered ++ [(r.x, it)] else l.delivered })
      have ep : Rc.pass l.parameters.ordered (f' + 1) r = Rc.pass l.parameters.ordered f' { r with x := r.x + 1, del := if l.parameters.ordered = true then r.del ++ [(r.x, it)] else r.del } := by
        show (match r.rcv r.x with
          | none => r
          | some it => Rc.pass l.parameters.ordered f' { r with x := r.x + 1, del := if l.parameters.ordered = true then r.del ++ [(r.x, it)] else r.del }) = _
        rw [q]
      rw [ep]
      rw [q] at hx
      have hl := filter_lt hx
      refine pass_sim k f' (r := { r with x := r.x + 1, del := if l.parameters.ordered = true then r.del ++ [(r.x, it)] else r.del }) (l := { l with firstMissing := r.x + 1, buffered := l.buffered.filter (fun z => z.1 != r.x), delivered := if l.parameters.ordered = true then l.delivered ++ [(r.x, it)] else l.delivered }) ⟨rfl, fun n => ?_, ?_⟩ ?_ (fun n h => ?_)
      · show (l.buffered.filter fun z => z.1 != r.x).find? (fun y => y.1 == n) = if r.x + 1 ≤ n then (r.rcv n).map (fun it => (n, it)) else none
        rw [find_filter, R.buf n]
        by_cases c : n = r.x
        · rw [if_pos c, if_neg (by omega)]
        · rw [if_neg c]
          by_cases z : r.x ≤ n
          · rw [if_pos z, if_pos (by omega)]
          · rw [if_neg z, if_neg (by omega)]
      · show (if l.parameters.ordered = true then l.delivered ++ [(r.x, it)] else l.delivered) = if l.parameters.ordered = true then r.del ++ [(r.x, it)] else r.del
        rw [R.del]
      · show (l.buffered.filter fun z => z.1 != r.x).length ≤ k
        omega
      · have := hf n h
        show n < r.x + 1 + f'
        omega
def frameStep (W M : Nat) (ord : Bool) (r : Rc) (fs : List Int) (ok : Bool) : Rc × Nat := if ok = false then (r, 0) else r.recv W M ord fs
theorem recvFrame_sim {r : Rc} {l : Link} (R : RRc r l) (p : Packet) :
    RRc (frameStep l.parameters.window l.parameters.modulus l.parameters.ordered r p.fields (isIntact p)).1 (receiveFrame l p).1 ∧
      (receiveFrame l p).2 = (frameStep l.parameters.window l.parameters.modulus l.parameters.ordered r p.fields (isIntact p)).2 ∧ RcOnly l (receiveFrame l p).1 := by
  unfold frameStep receiveFrame
  by_cases hi : isIntact p = false
  · rw [if_pos hi, if_pos hi]
    exact ⟨R, rfl, ⟨rfl, rfl, rfl, rfl, rfl, rfl, rfl, rfl, rfl⟩⟩
  · rw [if_neg hi, if_neg hi, numMeant_eq, R.x]
    unfold Rc.recv
    cases e : numMeant (p.fields.headD (-1)) l.parameters.modulus r.x l.parameters.window with
    | none => exact ⟨R, rfl, ⟨rfl, rfl, rfl, rfl, rfl, rfl, rfl, rfl, rfl⟩⟩
    | some n =>
      obtain ⟨h1, h2, _⟩ := numMeant_some e
      have hbx := isBuf_eq R h1
      dsimp only
      rw [hbx]
      by_cases c : ((r.rcv n).isSome || p.fields.length == 1) = true
      · rw [if_pos c, if_pos c]
        exact ⟨R, rfl, ⟨rfl, rfl, rfl, rfl, rfl, rfl, rfl, rfl, rfl⟩⟩
      · rw [if_neg c, if_neg c]
        dsimp only
        have hn : r.rcv n = none := by
          cases q : r.rcv n with
          | none => rfl
          | some it =>
            rw [q] at c
            exact absurd rfl c
        let l1 : Link := { l with firstMissing := r.x, buffered := l.buffered ++ [(n, p.fields.drop 1)], delivered := if l.parameters.ordered = true then l.delivered else l.delivered ++ [(n, p.fields.drop 1)] }
        have R1 : RPass (r.put l.parameters.ordered n (p.fields.drop 1)) l1 := by
          refine ⟨rfl, fun m => ?_, ?_⟩
          · show (l.buffered ++ [(n, p.fields.drop 1)]).find? (fun y => y.1 == m) = if r.x ≤ m then (setO r.rcv n (p.fields.drop 1) m).map (fun it => (m, it)) else none
            rw [find_app, R.buf m]
            unfold setO
            by_cases z : m = n
            · subst z
              rw [if_pos h1, hn, if_pos h1, if_pos rfl]
              show (if (m == m) = true then some (m, p.fields.drop 1) else none) = some (m, p.fields.drop 1)
              rw [if_pos (beq_self_eq_true m)]
            · rw [if_neg z, if_neg (show ¬ (n == m) = true from fun q => z (eq_of_beq q).symm)]
              by_cases y : r.x ≤ m
              · rw [if_pos y]
                cases r.rcv m <;> rfl
              · rw [if_neg y]
          · show (if l.parameters.ordered = true then l.delivered else l.delivered ++ [(n, p.fields.drop 1)]) = if l.parameters.ordered = true then r.del else r.del ++ [(n, p.fields.drop 1)]
            rw [R.del]
        have hb : ∀ m, ((r.put l.parameters.ordered n (p.fields.drop 1)).rcv m).isSome = true → m < r.x + l.parameters.window := fun m h => by
          have h' : (setO r.rcv n (p.fields.drop 1) m).isSome = true := h
          unfold setO at h'
          by_cases z : m = n
          · rw [z]
            exact h2
          · rw [if_neg z] at h'
            exact R.bnd m h'
        have P := pass_sim (l.buffered.length + 1) l.parameters.window (l := l1) R1 (by show (l.buffered ++ [(n, p.fields.drop 1)]).length ≤ l.buffered.length + 1; rw [List.length_append]; exact Nat.le_refl _) hb
        have O : RcOnly l1 (advance (l.buffered.length + 1) l1) := advance_only _ _
        refine ⟨⟨P.x, P.buf, P.del, fun m h => ?_⟩, rfl, RcOnly.trans (b := l1) ⟨rfl, rfl, rfl, rfl, rfl, rfl, rfl, rfl, rfl⟩ O⟩
        obtain ⟨_, p2, p3⟩ := pass_cnt l.parameters.ordered l.parameters.window (r.put l.parameters.ordered n (p.fields.drop 1))
        rw [p2] at h
        have := hb m h
        have p3' : r.x ≤ (Rc.pass l.parameters.ordered l.parameters.window (r.put l.parameters.ordered n (p.fields.drop 1))).x := p3
        rw [O.par]
        show m < (Rc.pass l.parameters.ordered l.parameters.window (r.put l.parameters.ordered n (p.fields.drop 1))).x + l.parameters.window
        omega
theorem ack_eq {r : Rc} {l : Link} (R : RRc r l) : ackFields l = r.ack l.parameters.window l.parameters.modulus := by
  unfold ackFields Rc.ack
  rw [R.x]
  congr 1
  refine List.map_congr_left fun i _ => ?_
  rw [isBuf_eq R (by omega)]
theorem sendAck_fr {r : Rc} {c : Ch} {l : Link} (R : RRc r l) (C : RCh c l.parameters.ackLifetime l.acks l.acksSent) :
    RCh (c.send (r.ack l.parameters.window l.parameters.modulus)) l.parameters.ackLifetime (sendAck l).acks (sendAck l).acksSent := by
  rw [← ack_eq R]
  exact C.send _ _ _
end W170

namespace W170
open PySem PySem.Spec PyProof.Rows L2

/-! ### whose an address is: link, part of it, place in the part -/
abbrev Role := Nat × Nat × Nat
abbrev Gh := Addr → Role
def At (g : Gh) (H : Hp) (r : Role) (p : Addr) (o : HO) : Prop := g p = r ∧ H p = some o
def tagAt (g : Gh) (p : Addr) (r : Role) : Gh := fun q => if q = p then r else g q
theorem tag_same {g : Gh} {p : Addr} {r : Role} : tagAt g p r p = r := if_pos rfl
theorem tag_ne {g : Gh} {p q : Addr} {r : Role} (h : q ≠ p) : tagAt g p r q = g q := if_neg h
/-- from (g, H) to (g', H') only what S says is changed, and nothing goes -/
structure Mv (S : Role → Prop) (g : Gh) (H : Hp) (g' : Gh) (H' : Hp) : Prop where
  tag : ∀ p o, H p = some o → g' p = g p
  keep : ∀ p o, H p = some o → ¬ S (g p) → H' p = some o
  there : ∀ p o, H p = some o → ∃ o', H' p = some o'
theorem Mv.refl {S : Role → Prop} {g : Gh} {H : Hp} : Mv S g H g H := ⟨fun _ _ _ => rfl, fun _ _ h _ => h, fun _ o h => ⟨o, h⟩⟩
theorem Mv.trans {S : Role → Prop} {g g1 g2 : Gh} {H H1 H2 : Hp} (a : Mv S g H g1 H1) (b : Mv S g1 H1 g2 H2) : Mv S g H g2 H2 where
  tag := fun p o h => by
    obtain ⟨o', h'⟩ := a.there p o h
    rw [b.tag p o' h', a.tag p o h]
  keep := fun p o h hs => b.keep p o (a.keep p o h hs) (by rw [a.tag p o h]; exact hs)
  there := fun p o h => by
    obtain ⟨o', h'⟩ := a.there p o h
    exact b.there p o' h'
theorem Mv.mono {S S' : Role → Prop} {g g' : Gh} {H H' : Hp} (a : Mv S g H g' H') (h : ∀ r, S r → S' r) : Mv S' g H g' H' := ⟨a.tag, fun p o e hs => a.keep p o e fun z => hs (h _ z), a.there⟩
theorem Mv.set {S : Role → Prop} {g : Gh} {H : Hp} {p : Addr} {o o' : HO} (e : H p = some o) (hs : S (g p)) : Mv S g H g (upd H p o') where
  tag := fun _ _ _ => rfl
  keep := fun q u h hn => by
    rw [upd_ne (fun z => hn (by rw [z]; exact hs))]
    exact h
  there := fun q u h => by
    by_cases z : q = p
    · rw [z]
      exact ⟨o', upd_same⟩
    · rw [upd_ne z]
      exact ⟨u, h⟩
theorem Mv.new {S : Role → Prop} {g : Gh} {H : Hp} {p : Addr} {o : HO} (r : Role) (e : H p = none) : Mv S g H (tagAt g p r) (upd H p o) where
  tag := fun q u h => tag_ne (ne_of_none h e)
  keep := fun q u h _ => by
    rw [upd_ne (ne_of_none h e)]
    exact h
  there := fun q u h => ⟨u, by rw [upd_ne (ne_of_none h e)]; exact h⟩
/-- a new object, its tag not spoken of -/
theorem Mv.new' {S : Role → Prop} {g : Gh} {H : Hp} {p : Addr} {o : HO} (e : H p = none) : Mv S g H g (upd H p o) where
  tag := fun q u h => rfl
  keep := fun q u h _ => by
    rw [upd_ne (ne_of_none h e)]
    exact h
  there := fun q u h => ⟨u, by rw [upd_ne (ne_of_none h e)]; exact h⟩
theorem Mv.free {S : Role → Prop} {g g' : Gh} {H H' : Hp} (a : Mv S g H g' H') {p : Addr} (h : H' p = none) : H p = none := by
  cases q : H p with
  | none => rfl
  | some o =>
    obtain ⟨o', h'⟩ := a.there p o q
    rw [h] at h'
    cases h'
theorem At.mv {S : Role → Prop} {g g' : Gh} {H H' : Hp} {r : Role} {p : Addr} {o : HO} (a : At g H r p o) (m : Mv S g H g' H') (h : ¬ S r) : At g' H' r p o :=
  ⟨(m.tag p o a.2).trans a.1, m.keep p o a.2 (by rw [a.1]; exact h)⟩
theorem At.ne {g : Gh} {H H' : Hp} {r r' : Role} {p p' : Addr} {o o' : HO} (a : At g H r p o) (b : At g H' r' p' o') (h : r ≠ r') : p ≠ p' := fun e => h (by rw [← a.1, ← b.1, e])
theorem SqL.mv {K : PySem.W.Frag} {S : Role → Prop} {g g' : Gh} {H H' : Hp} {a : Addr} {xs : List V} (m : Mv S g H g' H') (hn : ¬ S (g a)) (h : SqL K H a xs) : SqL K H' a xs := by
  rcases h with (h | ⟨o, h⟩) | h
  · exact .inl (.inl (m.keep _ _ h hn))
  · exact .inl (.inr ⟨o, m.keep _ _ h hn⟩)
  · exact .inr h
/-- what never changes -/
abbrev imm : Role := (0, 9, 0)

/-! ### attributes -/
theorem lk_here {k : Str} {v : V} {r : List (Str × V)} : List.lookup k ((k, v) :: r) = some v := by
  have e : (k == k) = true := beq_self_eq_true k
  simp only [List.lookup, e]
theorem lk_past {k g : Str} {v : V} {r : List (Str × V)} (h : (k == g) = false) : List.lookup k ((g, v) :: r) = List.lookup k r := by
  simp only [List.lookup, h]
theorem put_here {f : Str} {v x : V} {r : List (Str × V)} : putF f v ((f, x) :: r) = (f, v) :: r := if_pos rfl
theorem put_past {f g : Str} {v x : V} {r : List (Str × V)} (h : ¬ g = f) : putF f v ((g, x) :: r) = (g, x) :: putF f v r := if_neg h
end W170

namespace W170
open PySem PySem.Spec PyProof.Rows L2

/-! ### what the end shows of a def, a method, a class, a constant -/
structure DfG (K : PySem.W.Frag) (mg : Str → Option Value) (x : Str) (st : Stmt) (ps : List Str) : Prop where
  ex : ∃ (f : Addr) (fd : FuncData), L2.Fun K x x st f fd ∧ mg x = some (.ref f) ∧ Binds K fd ps []
structure DfM (K : PySem.W.Frag) (C : Addr) (m qual : Str) (st : Stmt) (ps : List Str) : Prop where
  ex : ∃ (f : Addr) (fd : FuncData), Meth K C m f ∧ L2.Fun K m qual st f fd ∧ Binds K fd ps []
  cl : Cls K C
structure DfC (K : PySem.W.Frag) (mg : Str → Option Value) (x : Str) (C : Addr) (qual : Str) (st : Stmt) (ps nos : List Str) : Prop where
  ex : ∃ (f : Addr) (fd : FuncData), Mk K C f ∧ L2.Fun K "__init__" qual st f fd ∧ Binds K fd ps []
  cl : Cls K C
  gm : mg x = some (.ref C)
  no : ∀ n ∈ nos, NoAttr K C n
def GInt (mg : Str → Option Value) (x : Str) (i : Int) : Prop := ∃ t, mg x = some (.int i t)
/-- a tuple of the text -/
def KTup (K : PySem.W.Frag) (a : Addr) (xs : List V) : Prop := ∃ (o : Obj) (its : Array Value) (n : Nat), K.lookup a = some o ∧ o.cls = .type "tuple" ∧ o.data = .seq its n ∧ its.size ≤ sizeLine ∧ Vals xs its.toList
theorem KTup.sq {K : PySem.W.Frag} {a : Addr} {xs : List V} {H : Hp} (h : KTup K a xs) : SqT K H a xs := .inr h
def GTup (K : PySem.W.Frag) (mg : Str → Option Value) (x : Str) (l : List Int) : Prop := ∃ a, mg x = some (.ref a) ∧ KTup K a (l.map V.int)
def GTups (K : PySem.W.Frag) (mg : Str → Option Value) (x : Str) (l : List (List Int)) : Prop := ∃ a as, mg x = some (.ref a) ∧ KTup K a (as.map V.ref) ∧ Paired (fun b ns => KTup K b (ns.map V.int)) as l
def EntOk (mg : Str → Option Value) : List DictEntry → List (Int × Str) → Prop
  | [], [] => True
  | e :: r, (k, x) :: l => (∃ t, e.key = .int k t) ∧ e.hash = hashInt k ∧ (∃ f, e.val = .ref f ∧ mg x = some (.ref f)) ∧ EntOk mg r l
  | _, _ => False
def GDefs (K : PySem.W.Frag) (mg : Str → Option Value) (x : Str) (l : List (Int × Str)) : Prop := ∃ (a : Addr) (es : Array DictEntry) (n : Nat), mg x = some (.ref a) ∧ K.lookup a = some ⟨.type "dict", none, .dict es n, #[]⟩ ∧ (a == sysModules) = false ∧ EntOk mg es.toList l

section
variable {P : Program} {w : World} {K : PySem.W.Frag} {mg : Str → Option Value} {base : Heap}
abbrev BodyOk (P : Program) (w : World) (K : PySem.W.Frag) (mg : Str → Option Value) (base : Heap) (k : Nat) (qual : Str) (st : Stmt) (N : List Str) (sp : Sp) : Prop := ∀ (f : Addr) (cdv : Value) (A : Around) (outer : List Env) (s : Shared) (H : Hp) (vs : List V) (Q : VK) (E : XK), Room k (A.deeper (envOfC qual (defScope st) s.heap.objs.size f cdv)) → sp vs H Q E →
      ∃ t, PSs (cxOf L2.CX0 P w K mg base N qual (defScope st) f cdv A outer s H E).nox (defBody st) t ∧ t { nx := fun _ H' => Q .non H', rt := Q } (start N vs) H
theorem df_g {x : Str} {st : Stmt} {N ps : List Str} {k : Nat} {sp : Sp} (T : DfG K mg x st ps) (S : FnScope N ps (defScope st)) (len : ∀ vs H Q E, sp vs H Q E → vs.length = ps.length) (hbody : BodyOk P w K mg base k x st N sp) :
    C8.Cal P w K mg base (k + 1) x sp [] := by
  obtain ⟨f, fd, F, hm, b⟩ := T.ex
  exact ⟨f, fd, ps, [], F.ok S len (hbody f), hm, F.kp, b, .nil⟩
theorem df_m {C : Addr} {m qual : Str} {st : Stmt} {N ps : List Str} {k : Nat} {sp : Sp} (T : DfM K C m qual st ps) (S : FnScope N ps (defScope st)) (len : ∀ vs H Q E, sp vs H Q E → vs.length = ps.length) (hbody : BodyOk P w K mg base k qual st N sp) :
    C8.Met P w K mg base (k + 1) C m sp [] := by
  obtain ⟨f, fd, me, F, b⟩ := T.ex
  exact ⟨f, fd, ps, [], T.cl, me, F.ok S len (hbody f), b, .nil⟩
theorem df_c {x : Str} {C : Addr} {qual : Str} {st : Stmt} {N ps nos : List Str} {k : Nat} {sp : Sp} (T : DfC K mg x C qual st ps nos) (S : FnScope N ps (defScope st)) (len : ∀ vs H Q E, sp vs H Q E → vs.length = ps.length) (hbody : BodyOk P w K mg base k qual st N sp) :
    C8.Mak P w K mg base (k + 1) x C sp [] := by
  obtain ⟨f, fd, me, F, b⟩ := T.ex
  exact ⟨f, fd, ps, [], me, F.ok S len (hbody f), T.gm, b, .nil⟩
theorem GInt.rel {x : Str} {i : Int} (h : GInt mg x i) : ∃ u, mg x = some u ∧ RelV (.int i) u := by
  obtain ⟨t, e⟩ := h
  exact ⟨_, e, t, rfl⟩
end
/-! ### the text by places -/
def topS (i : Nat) : Stmt := PySem.Challenge.pw_wrapwindow_s01_answers.main.body.getD i (.Pass ⟨0, 0, 0, 0⟩)
abbrev s_are_in_range : Stmt := topS 9
abbrev s_violated_condition : Stmt := topS 10
abbrev s_are_safe : Stmt := topS 11
abbrev s_failure_steps : Stmt := topS 13
abbrev s_late_frame_steps : Stmt := topS 14
abbrev s_late_ack_steps : Stmt := topS 15
abbrev s_transfer_steps : Stmt := topS 16
abbrev s_acknowledge_steps : Stmt := topS 17
abbrev s_send_step : Stmt := topS 18
abbrev s_is_item : Stmt := topS 24
abbrev s_time_of : Stmt := topS 25
abbrev s_all_within : Stmt := topS 26
abbrev s_checksum_of : Stmt := topS 32
abbrev s_number_meant : Stmt := topS 33
abbrev s_new_link : Stmt := topS 57
abbrev s_send_item : Stmt := topS 58
abbrev s_retransmit : Stmt := topS 59
abbrev s_deliver_frame : Stmt := topS 60
abbrev s_lose_frame : Stmt := topS 61
abbrev s_corrupt_frame : Stmt := topS 62
abbrev s_send_ack : Stmt := topS 63
abbrev s_deliver_ack : Stmt := topS 64
abbrev s_lose_ack : Stmt := topS 65
abbrev s_corrupt_ack : Stmt := topS 66
abbrev s_list_frames : Stmt := topS 67
abbrev s_list_acks : Stmt := topS 68
abbrev s_sender_state : Stmt := topS 69
abbrev s_receiver_state : Stmt := topS 70
abbrev s_list_delivered : Stmt := topS 71
abbrev s_list_in_transit : Stmt := topS 72
abbrev s_minimum_times : Stmt := topS 73
abbrev s_drop_below : Stmt := topS 74
abbrev s_check_parameters : Stmt := topS 75
abbrev s_find_failure : Stmt := topS 76
abbrev s_recover : Stmt := topS 77
abbrev s_get_counts : Stmt := topS 78
abbrev s_told_list : Stmt := topS 79
abbrev s_told_minimum : Stmt := topS 80
abbrev s_times_in_transit : Stmt := topS 81
abbrev s_refused_delivery : Stmt := topS 82
abbrev s_taken_packet : Stmt := topS 83
abbrev s_lose_packet : Stmt := topS 84
abbrev s_corrupt_packet : Stmt := topS 85
abbrev s_packet_list : Stmt := topS 86
abbrev s_answers : Stmt := topS 90
abbrev s_answer_call : Stmt := topS 91
abbrev s_Packet_init : Stmt := inClass (topS 34) 0
abbrev s_Packet_is_corrupted : Stmt := inClass (topS 34) 1
abbrev s_Packet_has_place : Stmt := inClass (topS 34) 2
abbrev s_Packet_change : Stmt := inClass (topS 34) 3
abbrev s_Channel_init : Stmt := inClass (topS 35) 0
abbrev s_Channel_send : Stmt := inClass (topS 35) 1
abbrev s_Channel_holds : Stmt := inClass (topS 35) 2
abbrev s_Channel_packet_at : Stmt := inClass (topS 35) 3
abbrev s_Channel_lose : Stmt := inClass (topS 35) 4
abbrev s_Channel_take_newest : Stmt := inClass (topS 35) 5
abbrev s_Receiver_init : Stmt := inClass (topS 37) 0
abbrev s_Receiver_receive_frame : Stmt := inClass (topS 37) 1
abbrev s_Receiver_pass_received : Stmt := inClass (topS 37) 2
abbrev s_Receiver_deliver : Stmt := inClass (topS 37) 3
abbrev s_Receiver_has_delivered : Stmt := inClass (topS 37) 4
abbrev s_Receiver_received_above : Stmt := inClass (topS 37) 5
abbrev s_Receiver_ack_fields : Stmt := inClass (topS 37) 6
abbrev s_Sender_init : Stmt := inClass (topS 39) 0
abbrev s_Sender_add_item : Stmt := inClass (topS 39) 1
abbrev s_Sender_has_content : Stmt := inClass (topS 39) 2
abbrev s_Sender_in_window : Stmt := inClass (topS 39) 3
abbrev s_Sender_window_count : Stmt := inClass (topS 39) 4
abbrev s_Sender_queue_count : Stmt := inClass (topS 39) 5
abbrev s_Sender_awaits_acknowledgement : Stmt := inClass (topS 39) 6
abbrev s_Sender_unacknowledged : Stmt := inClass (topS 39) 7
abbrev s_Sender_times_of : Stmt := inClass (topS 39) 8
abbrev s_Sender_drop_contents : Stmt := inClass (topS 39) 9
abbrev s_Sender_send_frame : Stmt := inClass (topS 39) 10
abbrev s_Sender_receive_ack : Stmt := inClass (topS 39) 11
abbrev s_Sender_move_window : Stmt := inClass (topS 39) 12
abbrev s_Sender_advance_base : Stmt := inClass (topS 39) 13
abbrev s_Sender_fill_window : Stmt := inClass (topS 39) 14
abbrev s_Link_init : Stmt := inClass (topS 41) 0
abbrev s_Link_in_transit : Stmt := inClass (topS 41) 1
abbrev s_Link_known_in_transit : Stmt := inClass (topS 41) 2
abbrev s_Link_repeat_windows : Stmt := inClass (topS 41) 3
abbrev s_Link_repeat_window : Stmt := inClass (topS 41) 4
theorem sc_are_in_range : FnScope ["parameters", "w", "m", "k", "r", "o"] ["parameters"] (defScope s_are_in_range) := C8.fnScope_by (by decide +kernel)
theorem sc_violated_condition : FnScope ["parameters", "w", "m", "k", "r"] ["parameters"] (defScope s_violated_condition) := C8.fnScope_by (by decide +kernel)
theorem sc_are_safe : FnScope ["parameters"] ["parameters"] (defScope s_are_safe) := C8.fnScope_by (by decide +kernel)
theorem sc_failure_steps : FnScope ["parameters", "condition"] ["parameters"] (defScope s_failure_steps) := C8.fnScope_by (by decide +kernel)
theorem sc_late_frame_steps : FnScope ["w", "m", "steps", "number"] ["w", "m"] (defScope s_late_frame_steps) := C8.fnScope_by (by decide +kernel)
theorem sc_late_ack_steps : FnScope ["w", "m", "steps", "windows", "window", "number"] ["w", "m"] (defScope s_late_ack_steps) := C8.fnScope_by (by decide +kernel)
theorem sc_transfer_steps : FnScope ["number", "place"] ["number", "place"] (defScope s_transfer_steps) := C8.fnScope_by (by decide +kernel)
theorem sc_acknowledge_steps : FnScope ["place"] ["place"] (defScope s_acknowledge_steps) := C8.fnScope_by (by decide +kernel)
theorem sc_send_step : FnScope ["number", "item"] ["number"] (defScope s_send_step) := C8.fnScope_by (by decide +kernel)
theorem sc_is_item : FnScope ["numbers"] ["numbers"] (defScope s_is_item) := C8.fnScope_by (by decide +kernel)
theorem sc_time_of : FnScope ["item"] ["item"] (defScope s_time_of) := C8.fnScope_by (by decide +kernel)
theorem sc_all_within : FnScope ["numbers", "ranges", "number", "limits"] ["numbers", "ranges"] (defScope s_all_within) := C8.fnScope_by (by decide +kernel)
theorem sc_checksum_of : FnScope ["fields", "total", "place", "field"] ["fields"] (defScope s_checksum_of) := C8.fnScope_by (by decide +kernel)
theorem sc_number_meant : FnScope ["field", "modulus", "lowest", "highest", "number"] ["field", "modulus", "lowest", "highest"] (defScope s_number_meant) := C8.fnScope_by (by decide +kernel)
theorem sc_new_link : FnScope ["links", "arguments", "link"] ["links", "arguments"] (defScope s_new_link) := C8.fnScope_by (by decide +kernel)
theorem sc_send_item : FnScope ["link", "arguments", "item", "number"] ["link", "arguments"] (defScope s_send_item) := C8.fnScope_by (by decide +kernel)
theorem sc_retransmit : FnScope ["link", "arguments", "number"] ["link", "arguments"] (defScope s_retransmit) := C8.fnScope_by (by decide +kernel)
theorem sc_deliver_frame : FnScope ["link", "arguments", "refusal", "delivered_before", "status"] ["link", "arguments"] (defScope s_deliver_frame) := C8.fnScope_by (by decide +kernel)
theorem sc_lose_frame : FnScope ["link", "arguments"] ["link", "arguments"] (defScope s_lose_frame) := C8.fnScope_by (by decide +kernel)
theorem sc_corrupt_frame : FnScope ["link", "arguments"] ["link", "arguments"] (defScope s_corrupt_frame) := C8.fnScope_by (by decide +kernel)
theorem sc_send_ack : FnScope ["link", "arguments", "fields"] ["link", "arguments"] (defScope s_send_ack) := C8.fnScope_by (by decide +kernel)
theorem sc_deliver_ack : FnScope ["link", "arguments", "refusal", "status", "sent"] ["link", "arguments"] (defScope s_deliver_ack) := C8.fnScope_by (by decide +kernel)
theorem sc_lose_ack : FnScope ["link", "arguments"] ["link", "arguments"] (defScope s_lose_ack) := C8.fnScope_by (by decide +kernel)
theorem sc_corrupt_ack : FnScope ["link", "arguments"] ["link", "arguments"] (defScope s_corrupt_ack) := C8.fnScope_by (by decide +kernel)
theorem sc_list_frames : FnScope ["link", "arguments"] ["link", "arguments"] (defScope s_list_frames) := C8.fnScope_by (by decide +kernel)
theorem sc_list_acks : FnScope ["link", "arguments"] ["link", "arguments"] (defScope s_list_acks) := C8.fnScope_by (by decide +kernel)
theorem sc_sender_state : FnScope ["link", "arguments", "sender", "numbers", "number"] ["link", "arguments"] (defScope s_sender_state) := C8.fnScope_by (by decide +kernel)
theorem sc_receiver_state : FnScope ["link", "arguments"] ["link", "arguments"] (defScope s_receiver_state) := C8.fnScope_by (by decide +kernel)
theorem sc_list_delivered : FnScope ["link", "arguments", "first", "delivered", "numbers", "number", "item"] ["link", "arguments"] (defScope s_list_delivered) := C8.fnScope_by (by decide +kernel)
theorem sc_list_in_transit : FnScope ["link", "arguments"] ["link", "arguments"] (defScope s_list_in_transit) := C8.fnScope_by (by decide +kernel)
theorem sc_minimum_times : FnScope ["links", "arguments", "exact", "known", "link"] ["links", "arguments"] (defScope s_minimum_times) := C8.fnScope_by (by decide +kernel)
theorem sc_drop_below : FnScope ["links", "arguments", "time", "dropped", "link"] ["links", "arguments"] (defScope s_drop_below) := C8.fnScope_by (by decide +kernel)
theorem sc_check_parameters : FnScope ["links", "arguments", "condition"] ["links", "arguments"] (defScope s_check_parameters) := C8.fnScope_by (by decide +kernel)
theorem sc_find_failure : FnScope ["links", "arguments", "steps", "numbers", "step"] ["links", "arguments"] (defScope s_find_failure) := C8.fnScope_by (by decide +kernel)
theorem sc_recover : FnScope ["link", "arguments", "delivered_before", "rounds"] ["link", "arguments"] (defScope s_recover) := C8.fnScope_by (by decide +kernel)
theorem sc_get_counts : FnScope ["links", "arguments", "numbers", "link"] ["links", "arguments"] (defScope s_get_counts) := C8.fnScope_by (by decide +kernel)
theorem sc_told_list : FnScope ["numbers"] ["numbers"] (defScope s_told_list) := C8.fnScope_by (by decide +kernel)
theorem sc_told_minimum : FnScope ["times"] ["times"] (defScope s_told_minimum) := C8.fnScope_by (by decide +kernel)
theorem sc_times_in_transit : FnScope ["links", "times", "link"] ["links"] (defScope s_times_in_transit) := C8.fnScope_by (by decide +kernel)
theorem sc_refused_delivery : FnScope ["channel", "arguments"] ["channel", "arguments"] (defScope s_refused_delivery) := C8.fnScope_by (by decide +kernel)
theorem sc_taken_packet : FnScope ["channel", "arguments", "packet"] ["channel", "arguments"] (defScope s_taken_packet) := C8.fnScope_by (by decide +kernel)
theorem sc_lose_packet : FnScope ["channel", "arguments"] ["channel", "arguments"] (defScope s_lose_packet) := C8.fnScope_by (by decide +kernel)
theorem sc_corrupt_packet : FnScope ["channel", "arguments", "packet", "place", "number"] ["channel", "arguments"] (defScope s_corrupt_packet) := C8.fnScope_by (by decide +kernel)
theorem sc_packet_list : FnScope ["channel", "numbers", "packet"] ["channel"] (defScope s_packet_list) := C8.fnScope_by (by decide +kernel)
theorem sc_answers : FnScope ["calls", "links", "results", "place", "call_number", "end", "arguments", "row_start", "answer"] ["calls"] (defScope s_answers) := C8.fnScope_by (by decide +kernel)
theorem sc_answer_call : FnScope ["links", "call_number", "arguments", "session_call", "link_number", "link_call"] ["links", "call_number", "arguments"] (defScope s_answer_call) := C8.fnScope_by (by decide +kernel)
theorem sc_Packet_init : FnScope ["self", "fields", "sent_before"] ["self", "fields", "sent_before"] (defScope s_Packet_init) := C8.fnScope_by (by decide +kernel)
theorem sc_Packet_is_corrupted : FnScope ["self"] ["self"] (defScope s_Packet_is_corrupted) := C8.fnScope_by (by decide +kernel)
theorem sc_Packet_has_place : FnScope ["self", "place"] ["self", "place"] (defScope s_Packet_has_place) := C8.fnScope_by (by decide +kernel)
theorem sc_Packet_change : FnScope ["self", "place", "number"] ["self", "place", "number"] (defScope s_Packet_change) := C8.fnScope_by (by decide +kernel)
theorem sc_Channel_init : FnScope ["self", "lifetime"] ["self", "lifetime"] (defScope s_Channel_init) := C8.fnScope_by (by decide +kernel)
theorem sc_Channel_send : FnScope ["self", "fields", "oldest", "packet"] ["self", "fields"] (defScope s_Channel_send) := C8.fnScope_by (by decide +kernel)
theorem sc_Channel_holds : FnScope ["self", "place"] ["self", "place"] (defScope s_Channel_holds) := C8.fnScope_by (by decide +kernel)
theorem sc_Channel_packet_at : FnScope ["self", "place"] ["self", "place"] (defScope s_Channel_packet_at) := C8.fnScope_by (by decide +kernel)
theorem sc_Channel_lose : FnScope ["self", "place"] ["self", "place"] (defScope s_Channel_lose) := C8.fnScope_by (by decide +kernel)
theorem sc_Channel_take_newest : FnScope ["self"] ["self"] (defScope s_Channel_take_newest) := C8.fnScope_by (by decide +kernel)
theorem sc_Receiver_init : FnScope ["self", "window_size", "modulus", "ordered"] ["self", "window_size", "modulus", "ordered"] (defScope s_Receiver_init) := C8.fnScope_by (by decide +kernel)
theorem sc_Receiver_receive_frame : FnScope ["self", "packet", "highest", "number"] ["self", "packet"] (defScope s_Receiver_receive_frame) := C8.fnScope_by (by decide +kernel)
theorem sc_Receiver_pass_received : FnScope ["self"] ["self"] (defScope s_Receiver_pass_received) := C8.fnScope_by (by decide +kernel)
theorem sc_Receiver_deliver : FnScope ["self", "number"] ["self", "number"] (defScope s_Receiver_deliver) := C8.fnScope_by (by decide +kernel)
theorem sc_Receiver_has_delivered : FnScope ["self", "number"] ["self", "number"] (defScope s_Receiver_has_delivered) := C8.fnScope_by (by decide +kernel)
theorem sc_Receiver_received_above : FnScope ["self", "end", "number"] ["self"] (defScope s_Receiver_received_above) := C8.fnScope_by (by decide +kernel)
theorem sc_Receiver_ack_fields : FnScope ["self", "fields", "distance"] ["self"] (defScope s_Receiver_ack_fields) := C8.fnScope_by (by decide +kernel)
theorem sc_Sender_init : FnScope ["self", "window_size", "modulus", "frames"] ["self", "window_size", "modulus", "frames"] (defScope s_Sender_init) := C8.fnScope_by (by decide +kernel)
theorem sc_Sender_add_item : FnScope ["self", "item"] ["self", "item"] (defScope s_Sender_add_item) := C8.fnScope_by (by decide +kernel)
theorem sc_Sender_has_content : FnScope ["self", "number"] ["self", "number"] (defScope s_Sender_has_content) := C8.fnScope_by (by decide +kernel)
theorem sc_Sender_in_window : FnScope ["self", "number"] ["self", "number"] (defScope s_Sender_in_window) := C8.fnScope_by (by decide +kernel)
theorem sc_Sender_window_count : FnScope ["self"] ["self"] (defScope s_Sender_window_count) := C8.fnScope_by (by decide +kernel)
theorem sc_Sender_queue_count : FnScope ["self"] ["self"] (defScope s_Sender_queue_count) := C8.fnScope_by (by decide +kernel)
theorem sc_Sender_awaits_acknowledgement : FnScope ["self", "number"] ["self", "number"] (defScope s_Sender_awaits_acknowledgement) := C8.fnScope_by (by decide +kernel)
theorem sc_Sender_unacknowledged : FnScope ["self", "item_count", "number"] ["self"] (defScope s_Sender_unacknowledged) := C8.fnScope_by (by decide +kernel)
theorem sc_Sender_times_of : FnScope ["self", "numbers", "number"] ["self", "numbers"] (defScope s_Sender_times_of) := C8.fnScope_by (by decide +kernel)
theorem sc_Sender_drop_contents : FnScope ["self", "time", "dropped_before", "number"] ["self", "time"] (defScope s_Sender_drop_contents) := C8.fnScope_by (by decide +kernel)
theorem sc_Sender_send_frame : FnScope ["self", "number", "fields"] ["self", "number"] (defScope s_Sender_send_frame) := C8.fnScope_by (by decide +kernel)
theorem sc_Sender_receive_ack : FnScope ["self", "packet", "missing", "number", "distance", "field"] ["self", "packet"] (defScope s_Sender_receive_ack) := C8.fnScope_by (by decide +kernel)
theorem sc_Sender_move_window : FnScope ["self"] ["self"] (defScope s_Sender_move_window) := C8.fnScope_by (by decide +kernel)
theorem sc_Sender_advance_base : FnScope ["self"] ["self"] (defScope s_Sender_advance_base) := C8.fnScope_by (by decide +kernel)
theorem sc_Sender_fill_window : FnScope ["self", "first", "end"] ["self"] (defScope s_Sender_fill_window) := C8.fnScope_by (by decide +kernel)
theorem sc_Link_init : FnScope ["self", "w", "m", "k", "r", "o"] ["self", "w", "m", "k", "r", "o"] (defScope s_Link_init) := C8.fnScope_by (by decide +kernel)
theorem sc_Link_in_transit : FnScope ["self", "item_count", "number"] ["self"] (defScope s_Link_in_transit) := C8.fnScope_by (by decide +kernel)
theorem sc_Link_known_in_transit : FnScope ["self"] ["self"] (defScope s_Link_known_in_transit) := C8.fnScope_by (by decide +kernel)
theorem sc_Link_repeat_windows : FnScope ["self", "round_limit", "rounds"] ["self", "round_limit"] (defScope s_Link_repeat_windows) := C8.fnScope_by (by decide +kernel)
theorem sc_Link_repeat_window : FnScope ["self", "number"] ["self"] (defScope s_Link_repeat_window) := C8.fnScope_by (by decide +kernel)
structure Cs where
  Packet : Addr
  Channel : Addr
  Receiver : Addr
  Sender : Addr
  Link : Addr
structure Txt (K : PySem.W.Frag) (mg : Str → Option Value) (C : Cs) : Prop where
  g_are_in_range : DfG K mg "are_in_range" s_are_in_range ["parameters"]
  g_violated_condition : DfG K mg "violated_condition" s_violated_condition ["parameters"]
  g_are_safe : DfG K mg "are_safe" s_are_safe ["parameters"]
  g_failure_steps : DfG K mg "failure_steps" s_failure_steps ["parameters"]
  g_late_frame_steps : DfG K mg "late_frame_steps" s_late_frame_steps ["w", "m"]
  g_late_ack_steps : DfG K mg "late_ack_steps" s_late_ack_steps ["w", "m"]
  g_transfer_steps : DfG K mg "transfer_steps" s_transfer_steps ["number", "place"]
  g_acknowledge_steps : DfG K mg "acknowledge_steps" s_acknowledge_steps ["place"]
  g_send_step : DfG K mg "send_step" s_send_step ["number"]
  g_is_item : DfG K mg "is_item" s_is_item ["numbers"]
  g_time_of : DfG K mg "time_of" s_time_of ["item"]
  g_all_within : DfG K mg "all_within" s_all_within ["numbers", "ranges"]
  g_checksum_of : DfG K mg "checksum_of" s_checksum_of ["fields"]
  g_number_meant : DfG K mg "number_meant" s_number_meant ["field", "modulus", "lowest", "highest"]
  g_new_link : DfG K mg "new_link" s_new_link ["links", "arguments"]
  g_send_item : DfG K mg "send_item" s_send_item ["link", "arguments"]
  g_retransmit : DfG K mg "retransmit" s_retransmit ["link", "arguments"]
  g_deliver_frame : DfG K mg "deliver_frame" s_deliver_frame ["link", "arguments"]
  g_lose_frame : DfG K mg "lose_frame" s_lose_frame ["link", "arguments"]
  g_corrupt_frame : DfG K mg "corrupt_frame" s_corrupt_frame ["link", "arguments"]
  g_send_ack : DfG K mg "send_ack" s_send_ack ["link", "arguments"]
  g_deliver_ack : DfG K mg "deliver_ack" s_deliver_ack ["link", "arguments"]
  g_lose_ack : DfG K mg "lose_ack" s_lose_ack ["link", "arguments"]
  g_corrupt_ack : DfG K mg "corrupt_ack" s_corrupt_ack ["link", "arguments"]
  g_list_frames : DfG K mg "list_frames" s_list_frames ["link", "arguments"]
  g_list_acks : DfG K mg "list_acks" s_list_acks ["link", "arguments"]
  g_sender_state : DfG K mg "sender_state" s_sender_state ["link", "arguments"]
  g_receiver_state : DfG K mg "receiver_state" s_receiver_state ["link", "arguments"]
  g_list_delivered : DfG K mg "list_delivered" s_list_delivered ["link", "arguments"]
  g_list_in_transit : DfG K mg "list_in_transit" s_list_in_transit ["link", "arguments"]
  g_minimum_times : DfG K mg "minimum_times" s_minimum_times ["links", "arguments"]
  g_drop_below : DfG K mg "drop_below" s_drop_below ["links", "arguments"]
  g_check_parameters : DfG K mg "check_parameters" s_check_parameters ["links", "arguments"]
  g_find_failure : DfG K mg "find_failure" s_find_failure ["links", "arguments"]
  g_recover : DfG K mg "recover" s_recover ["link", "arguments"]
  g_get_counts : DfG K mg "get_counts" s_get_counts ["links", "arguments"]
  g_told_list : DfG K mg "told_list" s_told_list ["numbers"]
  g_told_minimum : DfG K mg "told_minimum" s_told_minimum ["times"]
  g_times_in_transit : DfG K mg "times_in_transit" s_times_in_transit ["links"]
  g_refused_delivery : DfG K mg "refused_delivery" s_refused_delivery ["channel", "arguments"]
  g_taken_packet : DfG K mg "taken_packet" s_taken_packet ["channel", "arguments"]
  g_lose_packet : DfG K mg "lose_packet" s_lose_packet ["channel", "arguments"]
  g_corrupt_packet : DfG K mg "corrupt_packet" s_corrupt_packet ["channel", "arguments"]
  g_packet_list : DfG K mg "packet_list" s_packet_list ["channel"]
  g_answers : DfG K mg "answers" s_answers ["calls"]
  g_answer_call : DfG K mg "answer_call" s_answer_call ["links", "call_number", "arguments"]
  m_Packet_is_corrupted : DfM K C.Packet "is_corrupted" "Packet.is_corrupted" s_Packet_is_corrupted ["self"]
  m_Packet_has_place : DfM K C.Packet "has_place" "Packet.has_place" s_Packet_has_place ["self", "place"]
  m_Packet_change : DfM K C.Packet "change" "Packet.change" s_Packet_change ["self", "place", "number"]
  k_Packet : DfC K mg "Packet" C.Packet "Packet.__init__" s_Packet_init ["self", "fields", "sent_before"] ["fields", "checksum", "sent_before"]
  m_Channel_send : DfM K C.Channel "send" "Channel.send" s_Channel_send ["self", "fields"]
  m_Channel_holds : DfM K C.Channel "holds" "Channel.holds" s_Channel_holds ["self", "place"]
  m_Channel_packet_at : DfM K C.Channel "packet_at" "Channel.packet_at" s_Channel_packet_at ["self", "place"]
  m_Channel_lose : DfM K C.Channel "lose" "Channel.lose" s_Channel_lose ["self", "place"]
  m_Channel_take_newest : DfM K C.Channel "take_newest" "Channel.take_newest" s_Channel_take_newest ["self"]
  k_Channel : DfC K mg "Channel" C.Channel "Channel.__init__" s_Channel_init ["self", "lifetime"] ["lifetime", "sent_count", "packets"]
  m_Receiver_receive_frame : DfM K C.Receiver "receive_frame" "Receiver.receive_frame" s_Receiver_receive_frame ["self", "packet"]
  m_Receiver_pass_received : DfM K C.Receiver "pass_received" "Receiver.pass_received" s_Receiver_pass_received ["self"]
  m_Receiver_deliver : DfM K C.Receiver "deliver" "Receiver.deliver" s_Receiver_deliver ["self", "number"]
  m_Receiver_has_delivered : DfM K C.Receiver "has_delivered" "Receiver.has_delivered" s_Receiver_has_delivered ["self", "number"]
  m_Receiver_received_above : DfM K C.Receiver "received_above" "Receiver.received_above" s_Receiver_received_above ["self"]
  m_Receiver_ack_fields : DfM K C.Receiver "ack_fields" "Receiver.ack_fields" s_Receiver_ack_fields ["self"]
  k_Receiver : DfC K mg "Receiver" C.Receiver "Receiver.__init__" s_Receiver_init ["self", "window_size", "modulus", "ordered"] ["window_size", "modulus", "ordered", "lowest_missing", "received", "delivered"]
  m_Sender_add_item : DfM K C.Sender "add_item" "Sender.add_item" s_Sender_add_item ["self", "item"]
  m_Sender_has_content : DfM K C.Sender "has_content" "Sender.has_content" s_Sender_has_content ["self", "number"]
  m_Sender_in_window : DfM K C.Sender "in_window" "Sender.in_window" s_Sender_in_window ["self", "number"]
  m_Sender_window_count : DfM K C.Sender "window_count" "Sender.window_count" s_Sender_window_count ["self"]
  m_Sender_queue_count : DfM K C.Sender "queue_count" "Sender.queue_count" s_Sender_queue_count ["self"]
  m_Sender_awaits_acknowledgement : DfM K C.Sender "awaits_acknowledgement" "Sender.awaits_acknowledgement" s_Sender_awaits_acknowledgement ["self", "number"]
  m_Sender_unacknowledged : DfM K C.Sender "unacknowledged" "Sender.unacknowledged" s_Sender_unacknowledged ["self"]
  m_Sender_times_of : DfM K C.Sender "times_of" "Sender.times_of" s_Sender_times_of ["self", "numbers"]
  m_Sender_drop_contents : DfM K C.Sender "drop_contents" "Sender.drop_contents" s_Sender_drop_contents ["self", "time"]
  m_Sender_send_frame : DfM K C.Sender "send_frame" "Sender.send_frame" s_Sender_send_frame ["self", "number"]
  m_Sender_receive_ack : DfM K C.Sender "receive_ack" "Sender.receive_ack" s_Sender_receive_ack ["self", "packet"]
  m_Sender_move_window : DfM K C.Sender "move_window" "Sender.move_window" s_Sender_move_window ["self"]
  m_Sender_advance_base : DfM K C.Sender "advance_base" "Sender.advance_base" s_Sender_advance_base ["self"]
  m_Sender_fill_window : DfM K C.Sender "fill_window" "Sender.fill_window" s_Sender_fill_window ["self"]
  k_Sender : DfC K mg "Sender" C.Sender "Sender.__init__" s_Sender_init ["self", "window_size", "modulus", "frames"] ["window_size", "modulus", "frames", "all_items", "base", "next_number", "acknowledged", "dropped"]
  m_Link_in_transit : DfM K C.Link "in_transit" "Link.in_transit" s_Link_in_transit ["self"]
  m_Link_known_in_transit : DfM K C.Link "known_in_transit" "Link.known_in_transit" s_Link_known_in_transit ["self"]
  m_Link_repeat_windows : DfM K C.Link "repeat_windows" "Link.repeat_windows" s_Link_repeat_windows ["self", "round_limit"]
  m_Link_repeat_window : DfM K C.Link "repeat_window" "Link.repeat_window" s_Link_repeat_window ["self"]
  k_Link : DfC K mg "Link" C.Link "Link.__init__" s_Link_init ["self", "w", "m", "k", "r", "o"] ["safe", "frames", "acks", "sender", "receiver"]
  n_SEND_ITEM : GInt mg "SEND_ITEM" (1)
  n_RETRANSMIT : GInt mg "RETRANSMIT" (2)
  n_DELIVER_FRAME : GInt mg "DELIVER_FRAME" (3)
  n_SEND_ACK : GInt mg "SEND_ACK" (6)
  n_DELIVER_ACK : GInt mg "DELIVER_ACK" (7)
  n_NO_CONDITION : GInt mg "NO_CONDITION" (0)
  n_FRAME_CONDITION : GInt mg "FRAME_CONDITION" (1)
  n_ACK_CONDITION : GInt mg "ACK_CONDITION" (2)
  n_EVENT_RANGES : GTups K mg "EVENT_RANGES" [[1, 99999], [0, 999], [0, 6], [0, 9999], [0, 5], [0, 5], [-9999, 9999]]
  n_ANTI_MESSAGE_RANGES : GTups K mg "ANTI_MESSAGE_RANGES" [[1, 99999], [0, 5], [0, 999]]
  n_EVENT_TIME_PLACE : GInt mg "EVENT_TIME_PLACE" (1)
  n_ANTI_MESSAGE_TIME_PLACE : GInt mg "ANTI_MESSAGE_TIME_PLACE" (2)
  n_CHECKSUM_MODULUS : GInt mg "CHECKSUM_MODULUS" (1000003)
  n_CORRUPTED : GInt mg "CORRUPTED" (0)
  n_IGNORED : GInt mg "IGNORED" (1)
  n_ACCEPTED : GInt mg "ACCEPTED" (2)
  n_LINK_LIMIT : GInt mg "LINK_LIMIT" (4)
  n_ITEM_LIMIT : GInt mg "ITEM_LIMIT" (120)
  n_ROUND_LIMIT : GInt mg "ROUND_LIMIT" (121)
  n_HIGHEST_TIME_LIMIT : GInt mg "HIGHEST_TIME_LIMIT" (1000)
  n_LOWEST_CHANGE : GInt mg "LOWEST_CHANGE" (-9999)
  n_HIGHEST_CHANGE : GInt mg "HIGHEST_CHANGE" (99999)
  n_OUT_OF_RANGE : GInt mg "OUT_OF_RANGE" (-1)
  n_NO_LINK : GInt mg "NO_LINK" (-2)
  n_NO_ITEM : GInt mg "NO_ITEM" (-3)
  n_NO_PACKET : GInt mg "NO_PACKET" (-5)
  n_NOT_AWAITED : GInt mg "NOT_AWAITED" (-6)
  n_IN_TRANSIT : GInt mg "IN_TRANSIT" (-7)
  n_FULL : GInt mg "FULL" (-8)
  n_NOT_SAFE : GInt mg "NOT_SAFE" (-9)
  n_ARGUMENT_COUNTS : GTup K mg "ARGUMENT_COUNTS" [5, 1, 2, 3, 2, 4, 1, 3, 2, 4, 1, 1, 1, 1, 2, 1, 0, 1, 5, 5, 1, 0]
  n_LINK_CALLS : GDefs K mg "LINK_CALLS" [(1, "send_item"), (2, "retransmit"), (3, "deliver_frame"), (4, "lose_frame"), (5, "corrupt_frame"), (6, "send_ack"), (7, "deliver_ack"), (8, "lose_ack"), (9, "corrupt_ack"), (10, "list_frames"), (11, "list_acks"), (12, "sender_state"), (13, "receiver_state"), (14, "list_delivered"), (15, "list_in_transit"), (20, "recover")]
  n_SESSION_CALLS : GDefs K mg "SESSION_CALLS" [(0, "new_link"), (16, "minimum_times"), (17, "drop_below"), (18, "check_parameters"), (19, "find_failure"), (21, "get_counts")]
  b_enumerate : mg "enumerate" = none
  b_len : mg "len" = none
  b_list : mg "list" = none
  b_min : mg "min" = none
  b_range : mg "range" = none
  b_zip : mg "zip" = none
section
variable {K : PySem.W.Frag} {mg : Str → Option Value} {C : Cs}
/-! Packet -/
def F_Packet (v0 v1 v2 : V) : List (Str × V) := [("fields", v0), ("checksum", v1), ("sent_before", v2)]
section
variable {v0 v1 v2 y : V}
theorem lk_Packet_fields : (F_Packet v0 v1 v2).lookup ("fields" : Str) = some v0 := lk_here
theorem put_Packet_fields : putF "fields" y (F_Packet v0 v1 v2) = F_Packet y v1 v2 := put_here
theorem no_Packet_fields (T : Txt K mg C) : NoAttr K C.Packet "fields" := T.k_Packet.no _ (.head _)
theorem lk_Packet_checksum : (F_Packet v0 v1 v2).lookup ("checksum" : Str) = some v1 := (lk_past (by decide +kernel)).trans (lk_here)
theorem put_Packet_checksum : putF "checksum" y (F_Packet v0 v1 v2) = F_Packet v0 y v2 := (put_past (by decide +kernel)).trans (congrArg _ (put_here))
theorem no_Packet_checksum (T : Txt K mg C) : NoAttr K C.Packet "checksum" := T.k_Packet.no _ (.tail _ (.head _))
theorem lk_Packet_sent_before : (F_Packet v0 v1 v2).lookup ("sent_before" : Str) = some v2 := (lk_past (by decide +kernel)).trans ((lk_past (by decide +kernel)).trans (lk_here))
theorem put_Packet_sent_before : putF "sent_before" y (F_Packet v0 v1 v2) = F_Packet v0 v1 y := (put_past (by decide +kernel)).trans (congrArg _ ((put_past (by decide +kernel)).trans (congrArg _ (put_here))))
theorem no_Packet_sent_before (T : Txt K mg C) : NoAttr K C.Packet "sent_before" := T.k_Packet.no _ (.tail _ (.tail _ (.head _)))
theorem nm_Packet_is_corrupted : (F_Packet v0 v1 v2).lookup ("is_corrupted" : Str) = none := (lk_past (by decide +kernel)).trans ((lk_past (by decide +kernel)).trans ((lk_past (by decide +kernel)).trans (rfl)))
theorem nm_Packet_has_place : (F_Packet v0 v1 v2).lookup ("has_place" : Str) = none := (lk_past (by decide +kernel)).trans ((lk_past (by decide +kernel)).trans ((lk_past (by decide +kernel)).trans (rfl)))
theorem nm_Packet_change : (F_Packet v0 v1 v2).lookup ("change" : Str) = none := (lk_past (by decide +kernel)).trans ((lk_past (by decide +kernel)).trans ((lk_past (by decide +kernel)).trans (rfl)))
theorem new_Packet : (putF "sent_before" v2 (putF "checksum" v1 (putF "fields" v0 []))) = F_Packet v0 v1 v2 := by
  repeat (first | rfl | rw [put_past (by decide +kernel)] | (rw [show ∀ (f : Str) (v : V), putF f v [] = [(f, v)] from fun _ _ => rfl]))
theorem len_Packet : (F_Packet v0 v1 v2).length < 1000 := by show 3 < 1000; decide
end
/-! Channel -/
def F_Channel (v0 v1 v2 : V) : List (Str × V) := [("lifetime", v0), ("sent_count", v1), ("packets", v2)]
section
variable {v0 v1 v2 y : V}
theorem lk_Channel_lifetime : (F_Channel v0 v1 v2).lookup ("lifetime" : Str) = some v0 := lk_here
theorem put_Channel_lifetime : putF "lifetime" y (F_Channel v0 v1 v2) = F_Channel y v1 v2 := put_here
theorem no_Channel_lifetime (T : Txt K mg C) : NoAttr K C.Channel "lifetime" := T.k_Channel.no _ (.head _)
theorem lk_Channel_sent_count : (F_Channel v0 v1 v2).lookup ("sent_count" : Str) = some v1 := (lk_past (by decide +kernel)).trans (lk_here)
theorem put_Channel_sent_count : putF "sent_count" y (F_Channel v0 v1 v2) = F_Channel v0 y v2 := (put_past (by decide +kernel)).trans (congrArg _ (put_here))
theorem no_Channel_sent_count (T : Txt K mg C) : NoAttr K C.Channel "sent_count" := T.k_Channel.no _ (.tail _ (.head _))
theorem lk_Channel_packets : (F_Channel v0 v1 v2).lookup ("packets" : Str) = some v2 := (lk_past (by decide +kernel)).trans ((lk_past (by decide +kernel)).trans (lk_here))
theorem put_Channel_packets : putF "packets" y (F_Channel v0 v1 v2) = F_Channel v0 v1 y := (put_past (by decide +kernel)).trans (congrArg _ ((put_past (by decide +kernel)).trans (congrArg _ (put_here))))
theorem no_Channel_packets (T : Txt K mg C) : NoAttr K C.Channel "packets" := T.k_Channel.no _ (.tail _ (.tail _ (.head _)))
theorem nm_Channel_send : (F_Channel v0 v1 v2).lookup ("send" : Str) = none := (lk_past (by decide +kernel)).trans ((lk_past (by decide +kernel)).trans ((lk_past (by decide +kernel)).trans (rfl)))
theorem nm_Channel_holds : (F_Channel v0 v1 v2).lookup ("holds" : Str) = none := (lk_past (by decide +kernel)).trans ((lk_past (by decide +kernel)).trans ((lk_past (by decide +kernel)).trans (rfl)))
theorem nm_Channel_packet_at : (F_Channel v0 v1 v2).lookup ("packet_at" : Str) = none := (lk_past (by decide +kernel)).trans ((lk_past (by decide +kernel)).trans ((lk_past (by decide +kernel)).trans (rfl)))
theorem nm_Channel_lose : (F_Channel v0 v1 v2).lookup ("lose" : Str) = none := (lk_past (by decide +kernel)).trans ((lk_past (by decide +kernel)).trans ((lk_past (by decide +kernel)).trans (rfl)))
theorem nm_Channel_take_newest : (F_Channel v0 v1 v2).lookup ("take_newest" : Str) = none := (lk_past (by decide +kernel)).trans ((lk_past (by decide +kernel)).trans ((lk_past (by decide +kernel)).trans (rfl)))
theorem new_Channel : (putF "packets" v2 (putF "sent_count" v1 (putF "lifetime" v0 []))) = F_Channel v0 v1 v2 := by
  repeat (first | rfl | rw [put_past (by decide +kernel)] | (rw [show ∀ (f : Str) (v : V), putF f v [] = [(f, v)] from fun _ _ => rfl]))
theorem len_Channel : (F_Channel v0 v1 v2).length < 1000 := by show 3 < 1000; decide
end
/-! Receiver -/
def F_Receiver (v0 v1 v2 v3 v4 v5 : V) : List (Str × V) := [("window_size", v0), ("modulus", v1), ("ordered", v2), ("lowest_missing", v3), ("received", v4), ("delivered", v5)]
section
variable {v0 v1 v2 v3 v4 v5 y : V}
theorem lk_Receiver_window_size : (F_Receiver v0 v1 v2 v3 v4 v5).lookup ("window_size" : Str) = some v0 := lk_here
theorem put_Receiver_window_size : putF "window_size" y (F_Receiver v0 v1 v2 v3 v4 v5) = F_Receiver y v1 v2 v3 v4 v5 := put_here
theorem no_Receiver_window_size (T : Txt K mg C) : NoAttr K C.Receiver "window_size" := T.k_Receiver.no _ (.head _)
theorem lk_Receiver_modulus : (F_Receiver v0 v1 v2 v3 v4 v5).lookup ("modulus" : Str) = some v1 := (lk_past (by decide +kernel)).trans (lk_here)
theorem put_Receiver_modulus : putF "modulus" y (F_Receiver v0 v1 v2 v3 v4 v5) = F_Receiver v0 y v2 v3 v4 v5 := (put_past (by decide +kernel)).trans (congrArg _ (put_here))
theorem no_Receiver_modulus (T : Txt K mg C) : NoAttr K C.Receiver "modulus" := T.k_Receiver.no _ (.tail _ (.head _))
theorem lk_Receiver_ordered : (F_Receiver v0 v1 v2 v3 v4 v5).lookup ("ordered" : Str) = some v2 := (lk_past (by decide +kernel)).trans ((lk_past (by decide +kernel)).trans (lk_here))
theorem put_Receiver_ordered : putF "ordered" y (F_Receiver v0 v1 v2 v3 v4 v5) = F_Receiver v0 v1 y v3 v4 v5 := (put_past (by decide +kernel)).trans (congrArg _ ((put_past (by decide +kernel)).trans (congrArg _ (put_here))))
theorem no_Receiver_ordered (T : Txt K mg C) : NoAttr K C.Receiver "ordered" := T.k_Receiver.no _ (.tail _ (.tail _ (.head _)))
theorem lk_Receiver_lowest_missing : (F_Receiver v0 v1 v2 v3 v4 v5).lookup ("lowest_missing" : Str) = some v3 := (lk_past (by decide +kernel)).trans ((lk_past (by decide +kernel)).trans ((lk_past (by decide +kernel)).trans (lk_here)))
theorem put_Receiver_lowest_missing : putF "lowest_missing" y (F_Receiver v0 v1 v2 v3 v4 v5) = F_Receiver v0 v1 v2 y v4 v5 := (put_past (by decide +kernel)).trans (congrArg _ ((put_past (by decide +kernel)).trans (congrArg _ ((put_past (by decide +kernel)).trans (congrArg _ (put_here))))))
theorem no_Receiver_lowest_missing (T : Txt K mg C) : NoAttr K C.Receiver "lowest_missing" := T.k_Receiver.no _ (.tail _ (.tail _ (.tail _ (.head _))))
theorem lk_Receiver_received : (F_Receiver v0 v1 v2 v3 v4 v5).lookup ("received" : Str) = some v4 := (lk_past (by decide +kernel)).trans ((lk_past (by decide +kernel)).trans ((lk_past (by decide +kernel)).trans ((lk_past (by decide +kernel)).trans (lk_here))))
theorem put_Receiver_received : putF "received" y (F_Receiver v0 v1 v2 v3 v4 v5) = F_Receiver v0 v1 v2 v3 y v5 := (put_past (by decide +kernel)).trans (congrArg _ ((put_past (by decide +kernel)).trans (congrArg _ ((put_past (by decide +kernel)).trans (congrArg _ ((put_past (by decide +kernel)).trans (congrArg _ (put_here))))))))
theorem no_Receiver_received (T : Txt K mg C) : NoAttr K C.Receiver "received" := T.k_Receiver.no _ (.tail _ (.tail _ (.tail _ (.tail _ (.head _)))))
theorem lk_Receiver_delivered : (F_Receiver v0 v1 v2 v3 v4 v5).lookup ("delivered" : Str) = some v5 := (lk_past (by decide +kernel)).trans ((lk_past (by decide +kernel)).trans ((lk_past (by decide +kernel)).trans ((lk_past (by decide +kernel)).trans ((lk_past (by decide +kernel)).trans (lk_here)))))
theorem put_Receiver_delivered : putF "delivered" y (F_Receiver v0 v1 v2 v3 v4 v5) = F_Receiver v0 v1 v2 v3 v4 y := (put_past (by decide +kernel)).trans (congrArg _ ((put_past (by decide +kernel)).trans (congrArg _ ((put_past (by decide +kernel)).trans (congrArg _ ((put_past (by decide +kernel)).trans (congrArg _ ((put_past (by decide +kernel)).trans (congrArg _ (put_here))))))))))
theorem no_Receiver_delivered (T : Txt K mg C) : NoAttr K C.Receiver "delivered" := T.k_Receiver.no _ (.tail _ (.tail _ (.tail _ (.tail _ (.tail _ (.head _))))))
theorem nm_Receiver_receive_frame : (F_Receiver v0 v1 v2 v3 v4 v5).lookup ("receive_frame" : Str) = none := (lk_past (by decide +kernel)).trans ((lk_past (by decide +kernel)).trans ((lk_past (by decide +kernel)).trans ((lk_past (by decide +kernel)).trans ((lk_past (by decide +kernel)).trans ((lk_past (by decide +kernel)).trans (rfl))))))
theorem nm_Receiver_pass_received : (F_Receiver v0 v1 v2 v3 v4 v5).lookup ("pass_received" : Str) = none := (lk_past (by decide +kernel)).trans ((lk_past (by decide +kernel)).trans ((lk_past (by decide +kernel)).trans ((lk_past (by decide +kernel)).trans ((lk_past (by decide +kernel)).trans ((lk_past (by decide +kernel)).trans (rfl))))))
theorem nm_Receiver_deliver : (F_Receiver v0 v1 v2 v3 v4 v5).lookup ("deliver" : Str) = none := (lk_past (by decide +kernel)).trans ((lk_past (by decide +kernel)).trans ((lk_past (by decide +kernel)).trans ((lk_past (by decide +kernel)).trans ((lk_past (by decide +kernel)).trans ((lk_past (by decide +kernel)).trans (rfl))))))
theorem nm_Receiver_has_delivered : (F_Receiver v0 v1 v2 v3 v4 v5).lookup ("has_delivered" : Str) = none := (lk_past (by decide +kernel)).trans ((lk_past (by decide +kernel)).trans ((lk_past (by decide +kernel)).trans ((lk_past (by decide +kernel)).trans ((lk_past (by decide +kernel)).trans ((lk_past (by decide +kernel)).trans (rfl))))))
theorem nm_Receiver_received_above : (F_Receiver v0 v1 v2 v3 v4 v5).lookup ("received_above" : Str) = none := (lk_past (by decide +kernel)).trans ((lk_past (by decide +kernel)).trans ((lk_past (by decide +kernel)).trans ((lk_past (by decide +kernel)).trans ((lk_past (by decide +kernel)).trans ((lk_past (by decide +kernel)).trans (rfl))))))
theorem nm_Receiver_ack_fields : (F_Receiver v0 v1 v2 v3 v4 v5).lookup ("ack_fields" : Str) = none := (lk_past (by decide +kernel)).trans ((lk_past (by decide +kernel)).trans ((lk_past (by decide +kernel)).trans ((lk_past (by decide +kernel)).trans ((lk_past (by decide +kernel)).trans ((lk_past (by decide +kernel)).trans (rfl))))))
theorem new_Receiver : (putF "delivered" v5 (putF "received" v4 (putF "lowest_missing" v3 (putF "ordered" v2 (putF "modulus" v1 (putF "window_size" v0 [])))))) = F_Receiver v0 v1 v2 v3 v4 v5 := by
  repeat (first | rfl | rw [put_past (by decide +kernel)] | (rw [show ∀ (f : Str) (v : V), putF f v [] = [(f, v)] from fun _ _ => rfl]))
theorem len_Receiver : (F_Receiver v0 v1 v2 v3 v4 v5).length < 1000 := by show 6 < 1000; decide
end
/-! Sender -/
def F_Sender (v0 v1 v2 v3 v4 v5 v6 v7 : V) : List (Str × V) := [("window_size", v0), ("modulus", v1), ("frames", v2), ("all_items", v3), ("base", v4), ("next_number", v5), ("acknowledged", v6), ("dropped", v7)]
section
variable {v0 v1 v2 v3 v4 v5 v6 v7 y : V}
theorem lk_Sender_window_size : (F_Sender v0 v1 v2 v3 v4 v5 v6 v7).lookup ("window_size" : Str) = some v0 := lk_here
theorem put_Sender_window_size : putF "window_size" y (F_Sender v0 v1 v2 v3 v4 v5 v6 v7) = F_Sender y v1 v2 v3 v4 v5 v6 v7 := put_here
theorem no_Sender_window_size (T : Txt K mg C) : NoAttr K C.Sender "window_size" := T.k_Sender.no _ (.head _)
theorem lk_Sender_modulus : (F_Sender v0 v1 v2 v3 v4 v5 v6 v7).lookup ("modulus" : Str) = some v1 := (lk_past (by decide +kernel)).trans (lk_here)
theorem put_Sender_modulus : putF "modulus" y (F_Sender v0 v1 v2 v3 v4 v5 v6 v7) = F_Sender v0 y v2 v3 v4 v5 v6 v7 := (put_past (by decide +kernel)).trans (congrArg _ (put_here))
theorem no_Sender_modulus (T : Txt K mg C) : NoAttr K C.Sender "modulus" := T.k_Sender.no _ (.tail _ (.head _))
theorem lk_Sender_frames : (F_Sender v0 v1 v2 v3 v4 v5 v6 v7).lookup ("frames" : Str) = some v2 := (lk_past (by decide +kernel)).trans ((lk_past (by decide +kernel)).trans (lk_here))
theorem put_Sender_frames : putF "frames" y (F_Sender v0 v1 v2 v3 v4 v5 v6 v7) = F_Sender v0 v1 y v3 v4 v5 v6 v7 := (put_past (by decide +kernel)).trans (congrArg _ ((put_past (by decide +kernel)).trans (congrArg _ (put_here))))
theorem no_Sender_frames (T : Txt K mg C) : NoAttr K C.Sender "frames" := T.k_Sender.no _ (.tail _ (.tail _ (.head _)))
theorem lk_Sender_all_items : (F_Sender v0 v1 v2 v3 v4 v5 v6 v7).lookup ("all_items" : Str) = some v3 := (lk_past (by decide +kernel)).trans ((lk_past (by decide +kernel)).trans ((lk_past (by decide +kernel)).trans (lk_here)))
theorem put_Sender_all_items : putF "all_items" y (F_Sender v0 v1 v2 v3 v4 v5 v6 v7) = F_Sender v0 v1 v2 y v4 v5 v6 v7 := (put_past (by decide +kernel)).trans (congrArg _ ((put_past (by decide +kernel)).trans (congrArg _ ((put_past (by decide +kernel)).trans (congrArg _ (put_here))))))
theorem no_Sender_all_items (T : Txt K mg C) : NoAttr K C.Sender "all_items" := T.k_Sender.no _ (.tail _ (.tail _ (.tail _ (.head _))))
theorem lk_Sender_base : (F_Sender v0 v1 v2 v3 v4 v5 v6 v7).lookup ("base" : Str) = some v4 := (lk_past (by decide +kernel)).trans ((lk_past (by decide +kernel)).trans ((lk_past (by decide +kernel)).trans ((lk_past (by decide +kernel)).trans (lk_here))))
theorem put_Sender_base : putF "base" y (F_Sender v0 v1 v2 v3 v4 v5 v6 v7) = F_Sender v0 v1 v2 v3 y v5 v6 v7 := (put_past (by decide +kernel)).trans (congrArg _ ((put_past (by decide +kernel)).trans (congrArg _ ((put_past (by decide +kernel)).trans (congrArg _ ((put_past (by decide +kernel)).trans (congrArg _ (put_here))))))))
theorem no_Sender_base (T : Txt K mg C) : NoAttr K C.Sender "base" := T.k_Sender.no _ (.tail _ (.tail _ (.tail _ (.tail _ (.head _)))))
theorem lk_Sender_next_number : (F_Sender v0 v1 v2 v3 v4 v5 v6 v7).lookup ("next_number" : Str) = some v5 := (lk_past (by decide +kernel)).trans ((lk_past (by decide +kernel)).trans ((lk_past (by decide +kernel)).trans ((lk_past (by decide +kernel)).trans ((lk_past (by decide +kernel)).trans (lk_here)))))
theorem put_Sender_next_number : putF "next_number" y (F_Sender v0 v1 v2 v3 v4 v5 v6 v7) = F_Sender v0 v1 v2 v3 v4 y v6 v7 := (put_past (by decide +kernel)).trans (congrArg _ ((put_past (by decide +kernel)).trans (congrArg _ ((put_past (by decide +kernel)).trans (congrArg _ ((put_past (by decide +kernel)).trans (congrArg _ ((put_past (by decide +kernel)).trans (congrArg _ (put_here))))))))))
theorem no_Sender_next_number (T : Txt K mg C) : NoAttr K C.Sender "next_number" := T.k_Sender.no _ (.tail _ (.tail _ (.tail _ (.tail _ (.tail _ (.head _))))))
theorem lk_Sender_acknowledged : (F_Sender v0 v1 v2 v3 v4 v5 v6 v7).lookup ("acknowledged" : Str) = some v6 := (lk_past (by decide +kernel)).trans ((lk_past (by decide +kernel)).trans ((lk_past (by decide +kernel)).trans ((lk_past (by decide +kernel)).trans ((lk_past (by decide +kernel)).trans ((lk_past (by decide +kernel)).trans (lk_here))))))
theorem put_Sender_acknowledged : putF "acknowledged" y (F_Sender v0 v1 v2 v3 v4 v5 v6 v7) = F_Sender v0 v1 v2 v3 v4 v5 y v7 := (put_past (by decide +kernel)).trans (congrArg _ ((put_past (by decide +kernel)).trans (congrArg _ ((put_past (by decide +kernel)).trans (congrArg _ ((put_past (by decide +kernel)).trans (congrArg _ ((put_past (by decide +kernel)).trans (congrArg _ ((put_past (by decide +kernel)).trans (congrArg _ (put_here))))))))))))
theorem no_Sender_acknowledged (T : Txt K mg C) : NoAttr K C.Sender "acknowledged" := T.k_Sender.no _ (.tail _ (.tail _ (.tail _ (.tail _ (.tail _ (.tail _ (.head _)))))))
theorem lk_Sender_dropped : (F_Sender v0 v1 v2 v3 v4 v5 v6 v7).lookup ("dropped" : Str) = some v7 := (lk_past (by decide +kernel)).trans ((lk_past (by decide +kernel)).trans ((lk_past (by decide +kernel)).trans ((lk_past (by decide +kernel)).trans ((lk_past (by decide +kernel)).trans ((lk_past (by decide +kernel)).trans ((lk_past (by decide +kernel)).trans (lk_here)))))))
theorem put_Sender_dropped : putF "dropped" y (F_Sender v0 v1 v2 v3 v4 v5 v6 v7) = F_Sender v0 v1 v2 v3 v4 v5 v6 y := (put_past (by decide +kernel)).trans (congrArg _ ((put_past (by decide +kernel)).trans (congrArg _ ((put_past (by decide +kernel)).trans (congrArg _ ((put_past (by decide +kernel)).trans (congrArg _ ((put_past (by decide +kernel)).trans (congrArg _ ((put_past (by decide +kernel)).trans (congrArg _ ((put_past (by decide +kernel)).trans (congrArg _ (put_here))))))))))))))
theorem no_Sender_dropped (T : Txt K mg C) : NoAttr K C.Sender "dropped" := T.k_Sender.no _ (.tail _ (.tail _ (.tail _ (.tail _ (.tail _ (.tail _ (.tail _ (.head _))))))))
theorem nm_Sender_add_item : (F_Sender v0 v1 v2 v3 v4 v5 v6 v7).lookup ("add_item" : Str) = none := (lk_past (by decide +kernel)).trans ((lk_past (by decide +kernel)).trans ((lk_past (by decide +kernel)).trans ((lk_past (by decide +kernel)).trans ((lk_past (by decide +kernel)).trans ((lk_past (by decide +kernel)).trans ((lk_past (by decide +kernel)).trans ((lk_past (by decide +kernel)).trans (rfl))))))))
theorem nm_Sender_has_content : (F_Sender v0 v1 v2 v3 v4 v5 v6 v7).lookup ("has_content" : Str) = none := (lk_past (by decide +kernel)).trans ((lk_past (by decide +kernel)).trans ((lk_past (by decide +kernel)).trans ((lk_past (by decide +kernel)).trans ((lk_past (by decide +kernel)).trans ((lk_past (by decide +kernel)).trans ((lk_past (by decide +kernel)).trans ((lk_past (by decide +kernel)).trans (rfl))))))))
theorem nm_Sender_in_window : (F_Sender v0 v1 v2 v3 v4 v5 v6 v7).lookup ("in_window" : Str) = none := (lk_past (by decide +kernel)).trans ((lk_past (by decide +kernel)).trans ((lk_past (by decide +kernel)).trans ((lk_past (by decide +kernel)).trans ((lk_past (by decide +kernel)).trans ((lk_past (by decide +kernel)).trans ((lk_past (by decide +kernel)).trans ((lk_past (by decide +kernel)).trans (rfl))))))))
theorem nm_Sender_window_count : (F_Sender v0 v1 v2 v3 v4 v5 v6 v7).lookup ("window_count" : Str) = none := (lk_past (by decide +kernel)).trans ((lk_past (by decide +kernel)).trans ((lk_past (by decide +kernel)).trans ((lk_past (by decide +kernel)).trans ((lk_past (by decide +kernel)).trans ((lk_past (by decide +kernel)).trans ((lk_past (by decide +kernel)).trans ((lk_past (by decide +kernel)).trans (rfl))))))))
theorem nm_Sender_queue_count : (F_Sender v0 v1 v2 v3 v4 v5 v6 v7).lookup ("queue_count" : Str) = none := (lk_past (by decide +kernel)).trans ((lk_past (by decide +kernel)).trans ((lk_past (by decide +kernel)).trans ((lk_past (by decide +kernel)).trans ((lk_past (by decide +kernel)).trans ((lk_past (by decide +kernel)).trans ((lk_past (by decide +kernel)).trans ((lk_past (by decide +kernel)).trans (rfl))))))))
theorem nm_Sender_awaits_acknowledgement : (F_Sender v0 v1 v2 v3 v4 v5 v6 v7).lookup ("awaits_acknowledgement" : Str) = none := (lk_past (by decide +kernel)).trans ((lk_past (by decide +kernel)).trans ((lk_past (by decide +kernel)).trans ((lk_past (by decide +kernel)).trans ((lk_past (by decide +kernel)).trans ((lk_past (by decide +kernel)).trans ((lk_past (by decide +kernel)).trans ((lk_past (by decide +kernel)).trans (rfl))))))))
theorem nm_Sender_unacknowledged : (F_Sender v0 v1 v2 v3 v4 v5 v6 v7).lookup ("unacknowledged" : Str) = none := (lk_past (by decide +kernel)).trans ((lk_past (by decide +kernel)).trans ((lk_past (by decide +kernel)).trans ((lk_past (by decide +kernel)).trans ((lk_past (by decide +kernel)).trans ((lk_past (by decide +kernel)).trans ((lk_past (by decide +kernel)).trans ((lk_past (by decide +kernel)).trans (rfl))))))))
theorem nm_Sender_times_of : (F_Sender v0 v1 v2 v3 v4 v5 v6 v7).lookup ("times_of" : Str) = none := (lk_past (by decide +kernel)).trans ((lk_past (by decide +kernel)).trans ((lk_past (by decide +kernel)).trans ((lk_past (by decide +kernel)).trans ((lk_past (by decide +kernel)).trans ((lk_past (by decide +kernel)).trans ((lk_past (by decide +kernel)).trans ((lk_past (by decide +kernel)).trans (rfl))))))))
theorem nm_Sender_drop_contents : (F_Sender v0 v1 v2 v3 v4 v5 v6 v7).lookup ("drop_contents" : Str) = none := (lk_past (by decide +kernel)).trans ((lk_past (by decide +kernel)).trans ((lk_past (by decide +kernel)).trans ((lk_past (by decide +kernel)).trans ((lk_past (by decide +kernel)).trans ((lk_past (by decide +kernel)).trans ((lk_past (by decide +kernel)).trans ((lk_past (by decide +kernel)).trans (rfl))))))))
theorem nm_Sender_send_frame : (F_Sender v0 v1 v2 v3 v4 v5 v6 v7).lookup ("send_frame" : Str) = none := (lk_past (by decide +kernel)).trans ((lk_past (by decide +kernel)).trans ((lk_past (by decide +kernel)).trans ((lk_past (by decide +kernel)).trans ((lk_past (by decide +kernel)).trans ((lk_past (by decide +kernel)).trans ((lk_past (by decide +kernel)).trans ((lk_past (by decide +kernel)).trans (rfl))))))))
theorem nm_Sender_receive_ack : (F_Sender v0 v1 v2 v3 v4 v5 v6 v7).lookup ("receive_ack" : Str) = none := (lk_past (by decide +kernel)).trans ((lk_past (by decide +kernel)).trans ((lk_past (by decide +kernel)).trans ((lk_past (by decide +kernel)).trans ((lk_past (by decide +kernel)).trans ((lk_past (by decide +kernel)).trans ((lk_past (by decide +kernel)).trans ((lk_past (by decide +kernel)).trans (rfl))))))))
theorem nm_Sender_move_window : (F_Sender v0 v1 v2 v3 v4 v5 v6 v7).lookup ("move_window" : Str) = none := (lk_past (by decide +kernel)).trans ((lk_past (by decide +kernel)).trans ((lk_past (by decide +kernel)).trans ((lk_past (by decide +kernel)).trans ((lk_past (by decide +kernel)).trans ((lk_past (by decide +kernel)).trans ((lk_past (by decide +kernel)).trans ((lk_past (by decide +kernel)).trans (rfl))))))))
theorem nm_Sender_advance_base : (F_Sender v0 v1 v2 v3 v4 v5 v6 v7).lookup ("advance_base" : Str) = none := (lk_past (by decide +kernel)).trans ((lk_past (by decide +kernel)).trans ((lk_past (by decide +kernel)).trans ((lk_past (by decide +kernel)).trans ((lk_past (by decide +kernel)).trans ((lk_past (by decide +kernel)).trans ((lk_past (by decide +kernel)).trans ((lk_past (by decide +kernel)).trans (rfl))))))))
theorem nm_Sender_fill_window : (F_Sender v0 v1 v2 v3 v4 v5 v6 v7).lookup ("fill_window" : Str) = none := (lk_past (by decide +kernel)).trans ((lk_past (by decide +kernel)).trans ((lk_past (by decide +kernel)).trans ((lk_past (by decide +kernel)).trans ((lk_past (by decide +kernel)).trans ((lk_past (by decide +kernel)).trans ((lk_past (by decide +kernel)).trans ((lk_past (by decide +kernel)).trans (rfl))))))))
theorem new_Sender : (putF "dropped" v7 (putF "acknowledged" v6 (putF "next_number" v5 (putF "base" v4 (putF "all_items" v3 (putF "frames" v2 (putF "modulus" v1 (putF "window_size" v0 [])))))))) = F_Sender v0 v1 v2 v3 v4 v5 v6 v7 := by
  repeat (first | rfl | rw [put_past (by decide +kernel)] | (rw [show ∀ (f : Str) (v : V), putF f v [] = [(f, v)] from fun _ _ => rfl]))
theorem len_Sender : (F_Sender v0 v1 v2 v3 v4 v5 v6 v7).length < 1000 := by show 8 < 1000; decide
end
/-! Link -/
def F_Link (v0 v1 v2 v3 v4 : V) : List (Str × V) := [("safe", v0), ("frames", v1), ("acks", v2), ("sender", v3), ("receiver", v4)]
section
variable {v0 v1 v2 v3 v4 y : V}
theorem lk_Link_safe : (F_Link v0 v1 v2 v3 v4).lookup ("safe" : Str) = some v0 := lk_here
theorem put_Link_safe : putF "safe" y (F_Link v0 v1 v2 v3 v4) = F_Link y v1 v2 v3 v4 := put_here
theorem no_Link_safe (T : Txt K mg C) : NoAttr K C.Link "safe" := T.k_Link.no _ (.head _)
theorem lk_Link_frames : (F_Link v0 v1 v2 v3 v4).lookup ("frames" : Str) = some v1 := (lk_past (by decide +kernel)).trans (lk_here)
theorem put_Link_frames : putF "frames" y (F_Link v0 v1 v2 v3 v4) = F_Link v0 y v2 v3 v4 := (put_past (by decide +kernel)).trans (congrArg _ (put_here))
theorem no_Link_frames (T : Txt K mg C) : NoAttr K C.Link "frames" := T.k_Link.no _ (.tail _ (.head _))
theorem lk_Link_acks : (F_Link v0 v1 v2 v3 v4).lookup ("acks" : Str) = some v2 := (lk_past (by decide +kernel)).trans ((lk_past (by decide +kernel)).trans (lk_here))
theorem put_Link_acks : putF "acks" y (F_Link v0 v1 v2 v3 v4) = F_Link v0 v1 y v3 v4 := (put_past (by decide +kernel)).trans (congrArg _ ((put_past (by decide +kernel)).trans (congrArg _ (put_here))))
theorem no_Link_acks (T : Txt K mg C) : NoAttr K C.Link "acks" := T.k_Link.no _ (.tail _ (.tail _ (.head _)))
theorem lk_Link_sender : (F_Link v0 v1 v2 v3 v4).lookup ("sender" : Str) = some v3 := (lk_past (by decide +kernel)).trans ((lk_past (by decide +kernel)).trans ((lk_past (by decide +kernel)).trans (lk_here)))
theorem put_Link_sender : putF "sender" y (F_Link v0 v1 v2 v3 v4) = F_Link v0 v1 v2 y v4 := (put_past (by decide +kernel)).trans (congrArg _ ((put_past (by decide +kernel)).trans (congrArg _ ((put_past (by decide +kernel)).trans (congrArg _ (put_here))))))
theorem no_Link_sender (T : Txt K mg C) : NoAttr K C.Link "sender" := T.k_Link.no _ (.tail _ (.tail _ (.tail _ (.head _))))
theorem lk_Link_receiver : (F_Link v0 v1 v2 v3 v4).lookup ("receiver" : Str) = some v4 := (lk_past (by decide +kernel)).trans ((lk_past (by decide +kernel)).trans ((lk_past (by decide +kernel)).trans ((lk_past (by decide +kernel)).trans (lk_here))))
theorem put_Link_receiver : putF "receiver" y (F_Link v0 v1 v2 v3 v4) = F_Link v0 v1 v2 v3 y := (put_past (by decide +kernel)).trans (congrArg _ ((put_past (by decide +kernel)).trans (congrArg _ ((put_past (by decide +kernel)).trans (congrArg _ ((put_past (by decide +kernel)).trans (congrArg _ (put_here))))))))
theorem no_Link_receiver (T : Txt K mg C) : NoAttr K C.Link "receiver" := T.k_Link.no _ (.tail _ (.tail _ (.tail _ (.tail _ (.head _)))))
theorem nm_Link_in_transit : (F_Link v0 v1 v2 v3 v4).lookup ("in_transit" : Str) = none := (lk_past (by decide +kernel)).trans ((lk_past (by decide +kernel)).trans ((lk_past (by decide +kernel)).trans ((lk_past (by decide +kernel)).trans ((lk_past (by decide +kernel)).trans (rfl)))))
theorem nm_Link_known_in_transit : (F_Link v0 v1 v2 v3 v4).lookup ("known_in_transit" : Str) = none := (lk_past (by decide +kernel)).trans ((lk_past (by decide +kernel)).trans ((lk_past (by decide +kernel)).trans ((lk_past (by decide +kernel)).trans ((lk_past (by decide +kernel)).trans (rfl)))))
theorem nm_Link_repeat_windows : (F_Link v0 v1 v2 v3 v4).lookup ("repeat_windows" : Str) = none := (lk_past (by decide +kernel)).trans ((lk_past (by decide +kernel)).trans ((lk_past (by decide +kernel)).trans ((lk_past (by decide +kernel)).trans ((lk_past (by decide +kernel)).trans (rfl)))))
theorem nm_Link_repeat_window : (F_Link v0 v1 v2 v3 v4).lookup ("repeat_window" : Str) = none := (lk_past (by decide +kernel)).trans ((lk_past (by decide +kernel)).trans ((lk_past (by decide +kernel)).trans ((lk_past (by decide +kernel)).trans ((lk_past (by decide +kernel)).trans (rfl)))))
theorem new_Link : (putF "receiver" v4 (putF "sender" v3 (putF "acks" v2 (putF "frames" v1 (putF "safe" v0 []))))) = F_Link v0 v1 v2 v3 v4 := by
  repeat (first | rfl | rw [put_past (by decide +kernel)] | (rw [show ∀ (f : Str) (v : V), putF f v [] = [(f, v)] from fun _ _ => rfl]))
theorem len_Link : (F_Link v0 v1 v2 v3 v4).length < 1000 := by show 5 < 1000; decide
end
end
end W170

namespace W170
open PySem PySem.Spec PyProof.Rows L2
/-! ### what changes nothing: expressions, tests -/
abbrev EvX (t : TE) (σ : L2.St) (H : Hp) (v : V) : Prop := ∀ Q : VK, Q v H → t σ H Q
abbrev EtX (t : TT) (σ : L2.St) (H : Hp) (b : Bool) : Prop := ∀ Q : Bool → Hp → Prop, Q b H → t σ H Q
abbrev EaX (t : TA) (σ : L2.St) (H : Hp) (vs : List V) : Prop := ∀ Q : List V → Hp → Prop, Q vs H → t σ H Q
section
variable {K : PySem.W.Frag} {σ : L2.St} {H : Hp} {ta tb tc te : TE} {t u : TT} {v x y : V} {a b c : Bool} {i j k : Int} {D : Ends}
theorem if_c {c : Bool} {A B : Prop} (h1 : c = true → A) (h2 : c = false → B) : if c = true then A else B := by
  cases c with
  | true => rw [if_pos rfl]; exact h1 rfl
  | false => rw [if_neg Bool.false_ne_true]; exact h2 rfl
theorem x_c : EvX (tC v) σ H v := fun _ q => q
theorem x_v (n : Nat) (h : σ[n]? = some (some v) := by rfl) : EvX (tVar n) σ H v := fun _ q => ⟨v, h, q⟩
theorem x_i0 {g : Int → Int → V} (ha : EvX ta σ H (.int i)) (hb : EvX tb σ H (.int j)) : EvX (tOp (rI0 g) ta tb) σ H (g i j) := fun _ q => ha _ (hb _ ⟨i, j, rfl, rfl, q⟩)
theorem x_iC {C : Int → Int → Prop} {g : Int → Int → V} (ha : EvX ta σ H (.int i)) (hb : EvX tb σ H (.int j)) (hc : C i j) : EvX (tOp (rI C g) ta tb) σ H (g i j) := fun _ q => ha _ (hb _ ⟨i, j, rfl, rfl, hc, q⟩)
theorem x_eq (ha : EvX ta σ H x) (hb : EvX tb σ H y) (hs : scal x y = true) : EvX (tOp rEq ta tb) σ H (.bl (decide (x = y))) := fun _ q => ha _ (hb _ ⟨hs, q⟩)
theorem x_ne (ha : EvX ta σ H x) (hb : EvX tb σ H y) (hs : scal x y = true) : EvX (tOp rNe ta tb) σ H (.bl (!decide (x = y))) := fun _ q => ha _ (hb _ ⟨hs, q⟩)
theorem x_eqI (ha : EvX ta σ H (.int i)) (hb : EvX tb σ H (.int j)) : EvX (tOp rEq ta tb) σ H (.bl (decide (i = j))) := fun Q q => ha _ (hb _ ⟨rfl, by
  have e : decide (V.int i = V.int j) = decide (i = j) := by
    by_cases z : i = j
    · rw [z, decide_eq_true rfl, decide_eq_true rfl]
    · rw [decide_eq_false z, decide_eq_false fun q => z (V.int.inj q)]
  rw [e]
  exact q⟩)
theorem x_neI (ha : EvX ta σ H (.int i)) (hb : EvX tb σ H (.int j)) : EvX (tOp rNe ta tb) σ H (.bl (!decide (i = j))) := fun Q q => ha _ (hb _ ⟨rfl, by
  have e : decide (V.int i = V.int j) = decide (i = j) := by
    by_cases z : i = j
    · rw [z, decide_eq_true rfl, decide_eq_true rfl]
    · rw [decide_eq_false z, decide_eq_false fun q => z (V.int.inj q)]
  rw [e]
  exact q⟩)
theorem x_fld {p C dx : Addr} {fs : List (Str × V)} {f : Str} (ha : EvX ta σ H (.ref p)) (e : H p = some (.ins C dx fs)) (c : Cls K C) (n : NoAttr K C f) (l : fs.lookup f = some v) : EvX (tFld K ta f) σ H v := fun _ q => ha _ ⟨p, C, dx, fs, v, rfl, e, c, n, l, q⟩
theorem x_andV (ha : EvX ta σ H (.bl a)) (hb : a = true → EvX tb σ H (.bl b)) : EvX (tAndV ta tb) σ H (.bl (a && b)) := fun Q q => ha _ ⟨a, rfl, if_c (fun e => hb e _ (by rw [e, Bool.true_and] at q; exact q)) (fun e => by rw [e, Bool.false_and] at q; exact q)⟩
theorem x_chain {r r' : R2} {z : V} (ha : EvX ta σ H x) (hb : EvX tb σ H y) (hr : ∀ Q : VK, Q (.bl a) H → r x y H Q) (hc : EvX tc σ H z) (hr' : ∀ Q : VK, Q (.bl b) H → r' y z H Q) : EvX (tChain r r' ta tb tc) σ H (.bl (a && b)) := fun Q q => ha _ (hb _ (hr _ ⟨a, rfl, if_c
    (fun e => hc _ (hr' _ (by rw [e, Bool.true_and] at q; exact q))) (fun e => by rw [e, Bool.false_and] at q; exact q)⟩))
theorem r_i0 {g : Int → Int → V} : ∀ Q : VK, Q (g i j) H → rI0 g (.int i) (.int j) H Q := fun _ q => ⟨i, j, rfl, rfl, q⟩
theorem r_le : ∀ Q : VK, Q (.bl (decide (i ≤ j))) H → rI0 (fun i j => V.bl (decide (i ≤ j))) (.int i) (.int j) H Q := fun _ q => ⟨i, j, rfl, rfl, q⟩
theorem r_lt : ∀ Q : VK, Q (.bl (decide (i < j))) H → rI0 (fun i j => V.bl (decide (i < j))) (.int i) (.int j) H Q := fun _ q => ⟨i, j, rfl, rfl, q⟩
theorem x_test (h : EvX te σ H (.bl a)) : EtX (tTest te) σ H a := fun _ q => h _ ⟨a, rfl, q⟩
theorem x_B (h : EvX te σ H (.bl a)) : EtX (tB te) σ H a := fun _ q => h _ ⟨a, rfl, q⟩
theorem x_and (h1 : EtX t σ H a) (h2 : a = true → EtX u σ H b) : EtX (tAnd t u) σ H (a && b) := fun Q q => h1 _ (if_c (fun e => h2 e _ (by rw [e, Bool.true_and] at q; exact q)) (fun e => by rw [e, Bool.false_and] at q; exact q))
theorem x_or (h1 : EtX t σ H a) (h2 : a = false → EtX u σ H b) : EtX (tOr t u) σ H (a || b) := fun Q q => h1 _ (if_c (fun e => by rw [e, Bool.true_or] at q; exact q) (fun e => h2 e _ (by rw [e, Bool.false_or] at q; exact q)))
theorem x_orT (h1 : EtX t σ H true) : EtX (tOr t u) σ H true := fun Q q => h1 _ (if_c (fun _ => q) (fun e => Bool.noConfusion e))
theorem x_not (h1 : EtX t σ H a) : EtX (tNot t) σ H (!a) := fun _ q => h1 _ q
theorem x_is (h : EvX te σ H v) (e : v = x) : EvX te σ H x := by rw [← e]; exact h
theorem t_is (h : EtX t σ H a) (e : a = b) : EtX t σ H b := by rw [← e]; exact h
theorem x_nil : EaX tNil σ H [] := fun _ q => q
theorem x_cons {tr : TA} {vs : List V} (h : EvX ta σ H x) (hr : EaX tr σ H vs) : EaX (tCons ta tr) σ H (x :: vs) := fun _ q => h _ (hr _ q)
theorem x_if (h : EtX t σ H a) (h1 : a = true → EvX ta σ H v) (h2 : a = false → EvX tb σ H v) : EvX (tIf t ta tb) σ H v := fun Q q => h _ (if_c (fun e => h1 e _ q) (fun e => h2 e _ q))
theorem x_ix {p : Addr} {xs : List V} {n : Nat} (ha : EvX ta σ H (.ref p)) (hb : EvX tb σ H (.int (n : Int))) (h : SqL K H p xs) (e : xs[n]? = some v) : EvX (tOp (rIxL K) ta tb) σ H v := fun Q q => ha _ (hb _ ⟨p, xs, _, v, rfl, rfl, h, atI_nat e, q⟩)
theorem x_ixT {p : Addr} {xs : List V} {n : Nat} (ha : EvX ta σ H (.ref p)) (hb : EvX tb σ H (.int (n : Int))) (h : SqT K H p xs) (e : xs[n]? = some v) : EvX (tOp (rIxT K) ta tb) σ H v := fun Q q => ha _ (hb _ ⟨p, xs, _, v, rfl, rfl, h, atI_nat e, q⟩)
abbrev rLn (K : PySem.W.Frag) : List V → Hp → VK → Prop := fun xs H Q => ∃ p ys, xs = [.ref p] ∧ (SqL K H p ys ∨ SqT K H p ys) ∧ Q (.int ys.length) H
theorem x_len {p : Addr} {xs : List V} (h : EvX ta σ H (.ref p)) (hs : SqL K H p xs) : EvX (tCB (rLn K) (tCons ta tNil)) σ H (.int xs.length) := fun Q q => h _ ⟨p, xs, rfl, .inl hs, q⟩
theorem x_lenT {p : Addr} {xs : List V} (h : EvX ta σ H (.ref p)) (hs : SqT K H p xs) : EvX (tCB (rLn K) (tCons ta tNil)) σ H (.int xs.length) := fun Q q => h _ ⟨p, xs, rfl, .inr hs, q⟩
theorem x_call {sp : Sp} {dvs vs : List V} {E : XK} {t : TA} {Q : VK} (ha : EaX t σ H vs) (h : sp (vs ++ dvs) H Q E) : tCall sp dvs E t σ H Q := ha _ h
theorem x_meth {sp : Sp} {dvs vs : List V} {E : XK} {t : TA} {Q : VK} {p C dx : Addr} {m : Str} {fs : List (Str × V)} (ho : EvX ta σ H (.ref p)) (e : H p = some (.ins C dx fs)) (l : fs.lookup m = none) (ha : EaX t σ H vs) (h : sp (.ref p :: vs ++ dvs) H Q E) : tMeth C m sp dvs E ta t σ H Q :=
  ho _ ⟨p, dx, fs, rfl, e, l, ha _ h⟩
theorem x_make {sp : Sp} {dvs vs : List V} {E : XK} {t : TA} {Q : VK} {C : Addr} (ha : EaX t σ H vs) (h : ∀ x dx, H x = none → H dx = none → dx ≠ x → sp (.ref x :: (vs ++ dvs)) (upd (upd H dx (.own x)) x (.ins C dx [])) (fun v H2 => v = .non ∧ Q (.ref x) H2) E) : tMake C sp dvs E t σ H Q := ha _ h
/-! statements -/
theorem y_retl {t : TA} {vs : List V} (ha : EaX t σ H vs) (hn : vs.length ≤ 1000) (h : ∀ p, H p = none → D.rt (.ref p) (upd H p (.lst vs))) : tRet (tLst t) D σ H := ha _ ⟨Nat.le_trans hn (by decide), h⟩
theorem y_asgl {t : TA} {vs : List V} {n : Nat} (ha : EaX t σ H vs) (hn : vs.length ≤ 1000) (h : ∀ p, H p = none → D.nx (σ.set n (some (.ref p))) (upd H p (.lst vs))) : tAsg (tLst t) (gName n) D σ H := ha _ ⟨Nat.le_trans hn (by decide), h⟩
theorem y_asgcb {r : List V → Hp → VK → Prop} {t : TA} {vs : List V} {n : Nat} (ha : EaX t σ H vs) (h : r vs H fun v H1 => D.nx (σ.set n (some v)) H1) : tAsg (tCB r t) (gName n) D σ H := ha _ h
theorem seq_nat {n m : Nat} (h : n < m) : seqIndex? (n : Int) m = some n := by
  have h1 : ¬ (n : Int) < 0 := by omega
  have h2 : (0 ≤ (n : Int)) = True := eq_true (by omega)
  have h3 : ((n : Int) < (m : Int)) = True := eq_true (by omega)
  unfold seqIndex?
  simp only [h1, if_false, h2, h3, decide_true, Bool.and_true, if_true]
  rfl
theorem y_drop (h : te σ H fun _ H1 => D.nx σ H1) : tDrop te D σ H := h
theorem y_app {l : Addr} {xs : List V} (ha : EvX ta σ H (.ref l)) (hl : H l = some (.lst xs)) (h : te σ H fun y H1 => rAppend (.ref l) [y] H1 fun _ H2 => D.nx σ H2) : tDrop (tBM K "list" rAppend ta (tCons te tNil)) D σ H := ha _ ⟨.inl ⟨rfl, _, SqL.of hl⟩, h⟩
theorem y_aug {p C dx : Addr} {fs : List (Str × V)} {f : Str} (ha : EvX ta σ H (.ref p)) (e : H p = some (.ins C dx fs)) (c : Cls K C) (n : NoAttr K C f) (l : fs.lookup f = some (.int i)) (hv : EvX te σ H (.int j)) (ln : fs.length < 1000) (q : D.nx σ (upd H p (.ins C dx (putF f (.int (i + j)) fs)))) :
    sFldAug K ta te rAdd f D σ H := ha _ ⟨p, C, dx, fs, _, rfl, e, c, n, l, hv _ ⟨i, j, rfl, rfl, dx, fs, e, ln, q⟩⟩
theorem y_retop {r : R2} (ha : EvX ta σ H x) (h : tb σ H fun y H2 => r x y H2 D.rt) : tRet (tOp r ta tb) D σ H := ha _ h
theorem lt_put {f : Str} {v : V} {n : Nat} : ∀ {fs : List (Str × V)}, fs.length < n → (putF f v fs).length < n + 1
  | [], h => by
    show 1 < n + 1
    have : 0 < n := h
    omega
  | (g, x) :: r, h => by
    have h' : r.length + 1 < n := h
    show (if g = f then (g, v) :: r else (g, x) :: putF f v r).length < n + 1
    by_cases z : g = f
    · rw [if_pos z]
      show r.length + 1 < n + 1
      omega
    · rw [if_neg z]
      show (putF f v r).length + 1 < n + 1
      have := lt_put (f := f) (v := v) (n := n - 1) (fs := r) (by omega)
      omega
theorem lt_nil {n : Nat} (h : 0 < n) : ([] : List (Str × V)).length < n := h
theorem y_ret (h : EvX te σ H v) (q : D.rt v H) : tRet te D σ H := h _ q
theorem y_asg {n : Nat} (h : EvX te σ H v) (q : D.nx (σ.set n (some v)) H) : tAsg te (gName n) D σ H := h _ q
theorem y_if {tu tw : TS} (h : EtX t σ H a) (h1 : a = true → tu D σ H) (h2 : a = false → tw D σ H) : tIfS t tu tw D σ H := h _ (if_c h1 h2)
theorem y_fld {p C dx : Addr} {fs : List (Str × V)} {f : Str} (hv : EvX te σ H v) (ha : EvX ta σ H (.ref p)) (e : H p = some (.ins C dx fs)) (c : Cls K C) (n : NoAttr K C f) (l : fs.length < 1000) (q : D.nx σ (upd H p (.ins C dx (putF f v fs)))) : sFld K ta te f D σ H :=
  hv _ (ha _ ⟨p, C, dx, fs, rfl, e, c, n, l, q⟩)
end
/-- a global that is an object; a whole number -/
theorem pe_gr {X : Cx} {x : Str} {a : Addr} {pos : Pos} (hm : X.mg x = some (.ref a)) (hg : Gl X x := by rfl) (hd : (x == ("__debug__" : Str)) = false := by decide) : PE X (.Name x pos) (tC (.ref a)) := pe_glob (v := .ref a) hg hm rfl hd
theorem pe_gi {X : Cx} {x : Str} {i : Int} {pos : Pos} (h : GInt X.mg x i) (hg : Gl X x := by rfl) (hd : (x == ("__debug__" : Str)) = false := by decide) : PE X (.Name x pos) (tC (.int i)) := by
  obtain ⟨t, e⟩ := h
  exact pe_glob (v := .int i) hg e ⟨t, rfl⟩ hd
theorem pe_ln {X : Cx} {e : Expr} {ta : TE} {p pos : Pos} (hm : X.mg "len" = none) (he : PE X e ta) (hg : Gl X "len" := by rfl) (hs : starEach [e] X.env = (false, eval e X.env) :: starEach [] X.env := by rfl) : PE X (.Call (.Name "len" p) [e] [] pos) (tCB (rLn X.K) (tCons ta tNil)) :=
  pe_callB call_len_seq hg hm PySem.boot_len (pa_cons he pa_nil hs) (he := hs) (hpl := rfl)
theorem Mv.same {S : Role → Prop} {g : Gh} {H H' : Hp} (s : Same H H') : Mv S g H g H' := ⟨fun _ _ _ => rfl, fun p o h _ => s p o h, fun p o h => ⟨o, s p o h⟩⟩
theorem Mv.sameTag {S : Role → Prop} {g : Gh} {H H' : Hp} {x : Addr} (s : Same H H') (nx : H x = none) (r : Role) : Mv S g H (tagAt g x r) H' := ⟨fun p o h => tag_ne (ne_of_none h nx), fun p o h _ => s p o h, fun p o h => ⟨o, s p o h⟩⟩
theorem At.same {g : Gh} {H H' : Hp} {r : Role} {p : Addr} {o : HO} (a : At g H r p o) (s : Same H H') : At g H' r p o := ⟨a.1, s p o a.2⟩
theorem same_new {H : Hp} {p : Addr} {o : HO} (h : H p = none) : Same H (upd H p o) := fun b x e => by
  rw [upd_ne (ne_of_none e h)]
  exact e
end W170

namespace W170
open PySem PySem.Spec PyProof.Rows L2
section
variable {P : Program} {w : World} {K : PySem.W.Frag} {mg : Str → Option Value} {base : Heap} {C : Cs}

/-! ### violated_condition, are_safe, are_in_range -/
def safeB (w m k r : Int) : Bool := decide (2 * w + k - 1 ≤ m) && decide (r * w < m)
def missB (w m k r : Int) : Int := if m < 2 * w + k - 1 then 1 else if m ≤ r * w then 2 else 0
theorem miss_safe (w m k r : Int) : decide (missB w m k r = 0) = safeB w m k r := by
  unfold missB safeB
  generalize r * w = n
  by_cases c : m < 2 * w + k - 1
  · rw [if_pos c, decide_eq_false (show ¬ 2 * w + k - 1 ≤ m by omega)]
    rfl
  · rw [if_neg c, decide_eq_true (show 2 * w + k - 1 ≤ m by omega), Bool.true_and]
    by_cases d : m ≤ n
    · rw [if_pos d, decide_eq_false (show ¬ n < m by omega)]
      rfl
    · rw [if_neg d, decide_eq_true (show n < m by omega)]
      rfl
def spMiss (K : PySem.W.Frag) : Sp := fun vs H Q _ => ∃ (p : Addr) (w m k r o : Int), vs = [.ref p] ∧ SqL K H p ([w, m, k, r, o].map V.int) ∧ (0 ≤ r ∧ r ≤ 12) ∧ Q (.int (missB w m k r)) H
theorem c_violated (T : Txt K mg C) : C8.Cal P w K mg base 1 "violated_condition" (spMiss K) [] := by
  refine df_g T.g_violated_condition sc_violated_condition (fun vs H Q E h => ?_) (fun f cdv A outer s H vs Q E hr h => ?_)
  · obtain ⟨_, _, _, _, _, _, rfl, _⟩ := h
    rfl
  · obtain ⟨p, w, m, k, r, o, rfl, hp, hr', q⟩ := h
    refine ⟨_, pss_cons (ps_set (i := 1) sc_violated_condition.nd rfl (.inl rfl) (pe_ix ix_list (pv 0) pe_int (fun _ _ => rfl)))
      (pss_cons (ps_set (i := 2) sc_violated_condition.nd rfl (.inl rfl) (pe_ix ix_list (pv 0) pe_int (fun _ _ => rfl)))
      (pss_cons (ps_set (i := 3) sc_violated_condition.nd rfl (.inl rfl) (pe_ix ix_list (pv 0) pe_int (fun _ _ => rfl)))
      (pss_cons (ps_set (i := 4) sc_violated_condition.nd rfl (.inl rfl) (pe_ix ix_list (pv 0) pe_int (fun _ _ => rfl)))
      (pss_cons (ps_if (pt_cmpR op_lt (pv 2) (pe_op op_sub (pe_op op_add (pe_op op_mul pe_int (pv 1)) (pv 3)) pe_int) (nomark _)) (pss_one (ps_ret (pe_gi T.n_FRAME_CONDITION))) pss_nil)
      (pss_cons (ps_if (pt_cmpR op_le (pv 2) (pe_op op_mul (pv 4) (pv 1)) (nomark _)) (pss_one (ps_ret (pe_gi T.n_ACK_CONDITION))) pss_nil)
      (pss_one (ps_ret (pe_gi T.n_NO_CONDITION)))))))), ?_⟩
    refine y_asg (x_ix (n := 0) (x_v 0) x_c hp rfl) ?_
    refine y_asg (x_ix (n := 1) (x_v 0) x_c hp rfl) ?_
    refine y_asg (x_ix (n := 2) (x_v 0) x_c hp rfl) ?_
    refine y_asg (x_ix (n := 3) (x_v 0) x_c hp rfl) ?_
    unfold missB at q
    dsimp only [tSeq]
    refine y_if (x_test (x_i0 (x_v 2) (x_i0 (x_i0 (x_iC x_c (x_v 1) (.inl ⟨by decide, by decide⟩)) (x_v 3)) x_c))) (fun e => ?_) (fun e => ?_)
    · rw [if_pos (of_decide_eq_true e)] at q
      exact y_ret x_c q
    · rw [if_neg (of_decide_eq_false e)] at q
      dsimp only [tNext]
      refine y_if (x_test (x_i0 (x_v 2) (x_iC (x_v 4) (x_v 1) (.inl ⟨by omega, by omega⟩)))) (fun e2 => ?_) (fun e2 => ?_)
      · rw [if_pos (of_decide_eq_true e2)] at q
        exact y_ret x_c q
      · rw [if_neg (of_decide_eq_false e2)] at q
        dsimp only [tNext]
        exact y_ret x_c q
def spSafe (K : PySem.W.Frag) : Sp := fun vs H Q _ => ∃ (p : Addr) (w m k r o : Int), vs = [.ref p] ∧ SqL K H p ([w, m, k, r, o].map V.int) ∧ (0 ≤ r ∧ r ≤ 12) ∧ Q (.bl (safeB w m k r)) H
theorem c_are_safe (T : Txt K mg C) : C8.Cal P w K mg base 2 "are_safe" (spSafe K) [] := by
  have cV : C8.Cal P w K mg base 1 "violated_condition" (spMiss K) [] := c_violated T
  refine df_g T.g_are_safe sc_are_safe (fun vs H Q E h => ?_) (fun f cdv A outer s H vs Q E hr h => ?_)
  · obtain ⟨_, _, _, _, _, _, rfl, _⟩ := h
    rfl
  · obtain ⟨p, w, m, k, r, o, rfl, hp, hr', q⟩ := h
    refine ⟨_, pss_one (ps_ret (pe_cmpR op_eq (C8.pe_c cV hr (by decide) (by rfl) (pa_cons (pv 0) pa_nil)) (pe_gi T.n_NO_CONDITION) (nomark _))), ?_⟩
    rw [← miss_safe] at q
    exact y_ret (x_eqI (fun Q' q' => x_call (x_cons (x_v 0) x_nil) ⟨p, w, m, k, r, o, rfl, hp, hr', q'⟩) x_c) q
def rangeB (w m k r o : Int) : Bool := (decide (1 ≤ w) && decide (w ≤ 8)) && ((decide (w + 1 ≤ m) && decide (m ≤ 200)) && ((decide (1 ≤ k) && decide (k ≤ 20)) && ((decide (1 ≤ r) && decide (r ≤ 12)) && (decide (0 ≤ o) && decide (o ≤ 1)))))
def spRange (K : PySem.W.Frag) : Sp := fun vs H Q _ => ∃ (p : Addr) (w m k r o : Int), vs = [.ref p] ∧ SqL K H p ([w, m, k, r, o].map V.int) ∧ Q (.bl (rangeB w m k r o)) H
theorem c_are_in_range (T : Txt K mg C) : C8.Cal P w K mg base 1 "are_in_range" (spRange K) [] := by
  refine df_g T.g_are_in_range sc_are_in_range (fun vs H Q E h => ?_) (fun f cdv A outer s H vs Q E hr h => ?_)
  · obtain ⟨_, _, _, _, _, _, rfl, _⟩ := h
    rfl
  · obtain ⟨p, w, m, k, r, o, rfl, hp, q⟩ := h
    refine ⟨_, pss_cons (ps_set (i := 1) sc_are_in_range.nd rfl (.inl rfl) (pe_ix ix_list (pv 0) pe_int (fun _ _ => rfl)))
      (pss_cons (ps_set (i := 2) sc_are_in_range.nd rfl (.inl rfl) (pe_ix ix_list (pv 0) pe_int (fun _ _ => rfl)))
      (pss_cons (ps_set (i := 3) sc_are_in_range.nd rfl (.inl rfl) (pe_ix ix_list (pv 0) pe_int (fun _ _ => rfl)))
      (pss_cons (ps_set (i := 4) sc_are_in_range.nd rfl (.inl rfl) (pe_ix ix_list (pv 0) pe_int (fun _ _ => rfl)))
      (pss_cons (ps_set (i := 5) sc_are_in_range.nd rfl (.inl rfl) (pe_ix ix_list (pv 0) pe_int (fun _ _ => rfl)))
      (pss_one (ps_ret (pe_and (pe_chain op_le op_le pe_int (pv 1) pe_int) (pe_and (pe_chain op_le op_le (pe_op op_add (pv 1) pe_int) (pv 2) pe_int) (pe_and (pe_chain op_le op_le pe_int (pv 3) pe_int) (pe_and (pe_chain op_le op_le pe_int (pv 4) pe_int) (pe_one (pe_chain op_le op_le pe_int (pv 5) pe_int)))))))))))), ?_⟩
    refine y_asg (x_ix (n := 0) (x_v 0) x_c hp rfl) ?_
    refine y_asg (x_ix (n := 1) (x_v 0) x_c hp rfl) ?_
    refine y_asg (x_ix (n := 2) (x_v 0) x_c hp rfl) ?_
    refine y_asg (x_ix (n := 3) (x_v 0) x_c hp rfl) ?_
    refine y_asg (x_ix (n := 4) (x_v 0) x_c hp rfl) ?_
    dsimp only [tSeq]
    exact y_ret (x_andV (x_chain x_c (x_v 1) r_le x_c r_le) fun _ => x_andV (x_chain (x_i0 (x_v 1) x_c) (x_v 2) r_le x_c r_le) fun _ => x_andV (x_chain x_c (x_v 3) r_le x_c r_le) fun _ => x_andV (x_chain x_c (x_v 4) r_le x_c r_le) fun _ => x_chain x_c (x_v 5) r_le x_c r_le) q

/-! ### all_within, is_item -/
def withinB : List Int → List (List Int) → Bool
  | n :: ns, r :: rs => if n < r.getD 0 0 ∨ r.getD 1 0 < n then false else withinB ns rs
  | _, _ => true
/-- the ranges' tuples, each of two numbers -/
def Pairs (K : PySem.W.Frag) (as : List Addr) (rs : List (List Int)) : Prop := Paired (fun b ns => KTup K b (ns.map V.int)) as rs ∧ ∀ r ∈ rs, r.length = 2
def spWithin (K : PySem.W.Frag) : Sp := fun vs H Q _ => ∃ (p q : Addr) (ns : List Int) (as : List Addr) (rs : List (List Int)), vs = [.ref p, .ref q] ∧ SqL K H p (ns.map V.int) ∧ SqL K H q (as.map V.ref) ∧ Pairs K as rs ∧ ns.length = rs.length ∧
  ∀ H', Same H H' → Q (.bl (withinB ns rs)) H'
theorem Paired.at {α β : Type} {F : α → β → Prop} : ∀ {l : List α} {m : List β} {i : Nat} {x : β}, Paired F l m → m[i]? = some x → ∃ y, l[i]? = some y ∧ F y x
  | _, _, _, _, .nil, h => by simp at h
  | _, _, 0, _, .cons r _, h => ⟨_, rfl, by
      have e := Option.some.inj h
      rw [← e]
      exact r⟩
  | _, _, i + 1, _, .cons _ t, h => Paired.at (i := i) t h
theorem within_drop {ns : List Int} {rs : List (List Int)} {i : Nat} {n : Int} {r : List Int} (h1 : ns[i]? = some n) (h2 : rs[i]? = some r) : withinB (ns.drop i) (rs.drop i) = if n < r.getD 0 0 ∨ r.getD 1 0 < n then false else withinB (ns.drop (i + 1)) (rs.drop (i + 1)) := by
  obtain ⟨a, e1⟩ := List.getElem?_eq_some_iff.mp h1
  obtain ⟨b, e2⟩ := List.getElem?_eq_some_iff.mp h2
  rw [List.drop_eq_getElem_cons a, List.drop_eq_getElem_cons b, e1, e2]
  rfl
theorem c_all_within (T : Txt K mg C) : C8.Cal P w K mg base 1 "all_within" (spWithin K) [] := by
  refine df_g T.g_all_within sc_all_within (fun vs H Q E h => ?_) (fun f cdv A outer s H vs Q E hr h => ?_)
  · obtain ⟨_, _, _, _, _, rfl, _⟩ := h
    rfl
  · obtain ⟨p, q, ns, as, rs, rfl, hp, hq, hR, hl, k⟩ := h
    refine ⟨_, pss_cons (ps_for PassesOwn.never rfl (pi_zip (by rfl) T.b_zip (pa_cons (pv 0) (pa_cons (pv 1) pa_nil))) (pg_tup rfl (pgs_cons (pg_name (i := 2) sc_all_within.nd rfl (.inl rfl)) (pgs_cons (pg_name (i := 3) sc_all_within.nd rfl (.inl rfl)) pgs_nil)))
        (pss_one (ps_if (PW.pt (pw_or (pt_cmpR op_lt (pv 2) (pe_ix ix_tup (pv 3) pe_int (fun _ _ => rfl)) (nomark _)) (pw_or1 (pt_cmpR op_gt (pv 2) (pe_ix ix_tup (pv 3) pe_int (fun _ _ => rfl)) (nomark _))))) (pss_one (ps_ret pe_bl)) pss_nil)))
      (pss_one (ps_ret pe_bl)), ?_⟩
    have la : as.length = rs.length := Paired.length hR.1
    refine ⟨_, rfl, _, rfl, p, q, _, _, rfl, hp, hq, RZ.for_zipL (K := K) (by rw [List.length_map, List.length_map, hl, la]) (fun i σ H' => (∃ y z, σ = [some (.ref p), some (.ref q), y, z]) ∧ Same H H' ∧ withinB (ns.drop i) (rs.drop i) = withinB ns rs) ⟨⟨_, _, rfl⟩, Same.refl _, rfl⟩ (fun i σ H' h => ⟨h.2.1.seq hp, h.2.1.seq hq⟩) ?_ ?_⟩
    · rintro i x y Tt σ H' hx hy ⟨⟨y2, y3, rfl⟩, sm, hw⟩ nT
      obtain ⟨n, hn, rfl⟩ : ∃ n, ns[i]? = some n ∧ V.int n = x := by
        rw [List.getElem?_map] at hx
        obtain ⟨n, h1, h2⟩ := Option.map_eq_some_iff.mp hx
        exact ⟨n, h1, h2⟩
      obtain ⟨b, hb, rfl⟩ : ∃ b, as[i]? = some b ∧ V.ref b = y := by
        rw [List.getElem?_map] at hy
        obtain ⟨n, h1, h2⟩ := Option.map_eq_some_iff.mp hy
        exact ⟨n, h1, h2⟩
      have hi : i < rs.length := by rw [← la]; exact (List.getElem?_eq_some_iff.mp hb).1
      have hr1 : rs[i]? = some rs[i] := List.getElem?_eq_getElem hi
      obtain ⟨b', hb', kt⟩ := Paired.at hR.1 hr1
      rw [hb] at hb'
      obtain rfl : b = b' := Option.some.inj hb'
      have h2 : rs[i].length = 2 := hR.2 _ (List.getElem_mem hi)
      obtain ⟨lo, hi', er⟩ : ∃ lo hi', rs[i] = [lo, hi'] := by
        cases e : rs[i] with
        | nil => rw [e] at h2; simp at h2
        | cons a r =>
          cases r with
          | nil => rw [e] at h2; simp at h2
          | cons c r2 =>
            cases r2 with
            | nil => exact ⟨a, c, rfl⟩
            | cons _ _ => rw [e] at h2; simp at h2
      have wd := within_drop hn hr1
      rw [er] at kt wd
      have sm2 : Same H (upd H' Tt (.tup [.int n, .ref b])) := sm.trans (same_new nT)
      refine ⟨Tt, _, rfl, .of upd_same, rfl, _, _, rfl, _, _, rfl, rfl, ?_⟩
      refine y_if (x_or (x_test (x_i0 (x_v 2) (x_ixT (n := 0) (x_v 3) x_c kt.sq rfl))) fun _ => x_test (x_i0 (x_v 2) (x_ixT (n := 1) (x_v 3) x_c kt.sq rfl))) (fun e => ?_) (fun e => ?_)
      · refine y_ret x_c ?_
        have hc : n < lo ∨ hi' < n := by simpa using e
        rw [if_pos (show n < ([lo, hi'] : List Int).getD 0 0 ∨ ([lo, hi'] : List Int).getD 1 0 < n from hc), hw] at wd
        have := k _ sm2
        rw [wd] at this
        exact this
      · have hc : ¬ (n < lo ∨ hi' < n) := by
          intro z
          simp only [Bool.or_eq_false_iff, decide_eq_false_iff_not] at e
          exact z.elim e.1 e.2
        rw [if_neg (show ¬ (n < ([lo, hi'] : List Int).getD 0 0 ∨ ([lo, hi'] : List Int).getD 1 0 < n) from hc), hw] at wd
        exact ⟨⟨_, _, rfl⟩, sm2, wd.symm⟩
    · rintro σ H' ⟨⟨y2, y3, rfl⟩, sm, hw⟩
      dsimp only
      refine y_ret x_c ?_
      have := k _ sm
      rw [← hw, List.length_map, List.drop_length] at this
      exact this
def isItemB (ns : List Int) : Bool := if ns.length = 7 then withinB ns [[1, 99999], [0, 999], [0, 6], [0, 9999], [0, 5], [0, 5], [-9999, 9999]] else if ns.length = 3 then withinB ns [[1, 99999], [0, 5], [0, 999]] else false
def spIsItem (K : PySem.W.Frag) : Sp := fun vs H Q _ => ∃ (p : Addr) (ns : List Int), vs = [.ref p] ∧ SqL K H p (ns.map V.int) ∧ ∀ H', Same H H' → Q (.bl (isItemB ns)) H'
theorem c_is_item (T : Txt K mg C) : C8.Cal P w K mg base 2 "is_item" (spIsItem K) [] := by
  have cW : C8.Cal P w K mg base 1 "all_within" (spWithin K) [] := c_all_within T
  obtain ⟨ae, es, mE, kE, pE⟩ := T.n_EVENT_RANGES
  obtain ⟨aa, as, mA, kA, pA⟩ := T.n_ANTI_MESSAGE_RANGES
  refine df_g T.g_is_item sc_is_item (fun vs H Q E h => ?_) (fun f cdv A outer s H vs Q E hr h => ?_)
  · obtain ⟨_, _, rfl, _⟩ := h
    rfl
  · obtain ⟨p, ns, rfl, hp, k⟩ := h
    refine ⟨_, pss_cons (ps_if (pt_cmpR op_eq (pe_ln T.b_len (pv 0)) (pe_ln T.b_len (pe_gr mE)) (nomark _))
        (pss_one (ps_ret (C8.pe_c cW hr (by decide) (by rfl) (pa_cons (pv 0) (pa_cons (pe_callTy call_list_of (by rfl) T.b_list (by decide +kernel) (pa_cons (pe_gr mE) pa_nil)) pa_nil))))) pss_nil)
      (pss_cons (ps_if (pt_cmpR op_eq (pe_ln T.b_len (pv 0)) (pe_ln T.b_len (pe_gr mA)) (nomark _))
        (pss_one (ps_ret (C8.pe_c cW hr (by decide) (by rfl) (pa_cons (pv 0) (pa_cons (pe_callTy call_list_of (by rfl) T.b_list (by decide +kernel) (pa_cons (pe_gr mA) pa_nil)) pa_nil))))) pss_nil)
      (pss_one (ps_ret pe_bl))), ?_⟩
    have le : es.length = 7 := Paired.length pE
    have la : as.length = 3 := Paired.length pA
    have len_eq : ∀ (m : Nat) (xs : List Addr), xs.length = m → decide (((ns.map V.int).length : Int) = ((xs.map V.ref).length : Int)) = decide (ns.length = m) := fun m xs h => by
      rw [List.length_map, List.length_map, h]
      by_cases z : ns.length = m
      · rw [decide_eq_true z, decide_eq_true (by omega)]
      · rw [decide_eq_false z, decide_eq_false (by omega)]
    refine y_if (x_test (x_eqI (x_len (x_v 0) hp) (x_lenT x_c kE.sq))) (fun e => ?_) (fun e => ?_)
    · rw [len_eq 7 es le] at e
      have h7 := of_decide_eq_true e
      refine ⟨_, rfl, ae, _, rfl, .inr kE.sq, fun l nl => ?_⟩
      refine ⟨p, l, ns, es, [[1, 99999], [0, 999], [0, 6], [0, 9999], [0, 5], [0, 5], [-9999, 9999]], rfl, (same_new nl).seq hp, .of upd_same, ⟨pE, by decide⟩, h7, fun H' sm => ?_⟩
      have := k H' ((same_new nl).trans sm)
      unfold isItemB at this
      rw [if_pos h7] at this
      exact this
    · rw [len_eq 7 es le] at e
      have h7 := of_decide_eq_false e
      refine y_if (x_test (x_eqI (x_len (x_v 0) hp) (x_lenT x_c kA.sq))) (fun e => ?_) (fun e => ?_)
      · rw [len_eq 3 as la] at e
        have h3 := of_decide_eq_true e
        refine ⟨_, rfl, aa, _, rfl, .inr kA.sq, fun l nl => ?_⟩
        refine ⟨p, l, ns, as, [[1, 99999], [0, 5], [0, 999]], rfl, (same_new nl).seq hp, .of upd_same, ⟨pA, by decide⟩, h3, fun H' sm => ?_⟩
        have := k H' ((same_new nl).trans sm)
        unfold isItemB at this
        rw [if_neg h7, if_pos h3] at this
        exact this
      · rw [len_eq 3 as la] at e
        have h3 := of_decide_eq_false e
        dsimp only [tNext]
        refine y_ret x_c ?_
        have := k H (Same.refl H)
        unfold isItemB at this
        rw [if_neg h7, if_neg h3] at this
        exact this
/-! time_of -/
def timeB (it : List Int) : Int := if it.length = 7 then it.getD 1 0 else it.getD 2 0
theorem getD_at {l : List Int} {n : Nat} (h : n < l.length) : l[n]? = some (l.getD n 0) := by
  rw [List.getD_eq_getElem?_getD, List.getElem?_eq_getElem h]
  rfl
theorem item_three {it : List Int} (h : isItemB it = true) (h7 : ¬ it.length = 7) : it.length = 3 := by
  unfold isItemB at h
  rw [if_neg h7] at h
  by_cases c : it.length = 3
  · exact c
  · rw [if_neg c] at h
    cases h
def spTime (K : PySem.W.Frag) : Sp := fun vs H Q _ => ∃ (p : Addr) (it : List Int), vs = [.ref p] ∧ SqL K H p (it.map V.int) ∧ isItemB it = true ∧ Q (.int (timeB it)) H
theorem c_time_of (T : Txt K mg C) : C8.Cal P w K mg base 1 "time_of" (spTime K) [] := by
  obtain ⟨ae, es, mE, kE, pE⟩ := T.n_EVENT_RANGES
  refine df_g T.g_time_of sc_time_of (fun vs H Q E h => ?_) (fun f cdv A outer s H vs Q E hr h => ?_)
  · obtain ⟨_, _, rfl, _⟩ := h
    rfl
  · obtain ⟨p, it, rfl, hp, hi, k⟩ := h
    refine ⟨_, pss_cons (ps_if (pt_cmpR op_eq (pe_ln T.b_len (pv 0)) (pe_ln T.b_len (pe_gr mE)) (nomark _))
        (pss_one (ps_ret (pe_ix ix_list (pv 0) (pe_gi T.n_EVENT_TIME_PLACE) (fun _ _ => rfl)))) pss_nil)
      (pss_one (ps_ret (pe_ix ix_list (pv 0) (pe_gi T.n_ANTI_MESSAGE_TIME_PLACE) (fun _ _ => rfl)))), ?_⟩
    have le : es.length = 7 := Paired.length pE
    have ev : EtX (tTest (tOp rEq (tCB (rLn K) (tCons (tVar 0) tNil)) (tCB (rLn K) (tCons (tC (V.ref ae)) tNil)))) (L2.start ["item"] [V.ref p]) H (decide (it.length = 7)) := by
      refine t_is (x_test (x_eqI (x_len (x_v 0) hp) (x_lenT x_c kE.sq))) ?_
      rw [List.length_map, List.length_map, le]
      by_cases z : it.length = 7
      · rw [decide_eq_true z, decide_eq_true (by omega)]
      · rw [decide_eq_false z, decide_eq_false (by omega)]
    unfold timeB at k
    refine y_if ev (fun e => ?_) (fun e => ?_)
    · have h7 := of_decide_eq_true e
      rw [if_pos h7] at k
      exact y_ret (x_ix (n := 1) (x_v 0) x_c hp (by rw [List.getElem?_map, getD_at (by omega)]; rfl)) k
    · have h7 := of_decide_eq_false e
      have h3 := item_three hi h7
      rw [if_neg h7] at k
      dsimp only [tNext]
      exact y_ret (x_ix (n := 2) (x_v 0) x_c hp (by rw [List.getElem?_map, getD_at (by omega)]; rfl)) k
end
end W170

namespace W170
open PySem PySem.Spec PyProof.Rows L2
/-! ### min(xs, default=d) -/
def tMinD (K : PySem.W.Frag) (t : TA) (td : TE) : TE := fun σ H Q => t σ H fun vs H1 => td σ H1 fun y H2 => ∃ (a : Addr) (ns : List Int), vs = [.ref a] ∧ SqL K H2 a (ns.map V.int) ∧ (ns = [] → Q y H2) ∧ (∀ m, m ∈ ns → (∀ y ∈ ns, m ≤ y) → Q (.int m) H2)
theorem minOf_ok : ∀ (ys : List Int) (y : Int), PySem.W.minOf y ys ∈ y :: ys ∧ ∀ z ∈ y :: ys, PySem.W.minOf y ys ≤ z
  | [], y => ⟨.head _, fun z hz => by
      rw [List.mem_singleton.mp hz]
      exact Int.le_refl _⟩
  | x :: ys, y => by
    have e : PySem.W.minOf y (x :: ys) = PySem.W.minOf (if x < y then x else y) ys := by
      show ys.foldl _ (if PySem.W.DatumOrd.lt x y = true then x else y) = ys.foldl _ (if x < y then x else y)
      have : (if PySem.W.DatumOrd.lt x y = true then x else y) = if x < y then x else y := by
        show (if decide (x < y) = true then x else y) = _
        by_cases c : x < y
        · rw [if_pos (decide_eq_true c), if_pos c]
        · rw [if_neg (by rw [decide_eq_false c]; exact Bool.false_ne_true), if_neg c]
      rw [this]
    obtain ⟨h1, h2⟩ := minOf_ok ys (if x < y then x else y)
    rw [e]
    by_cases c : x < y
    · rw [if_pos c] at h1 h2 ⊢
      refine ⟨.tail _ h1, fun z hz => ?_⟩
      rcases List.mem_cons.mp hz with q | q
      · have := h2 x (.head _)
        omega
      · exact h2 z q
    · rw [if_neg c] at h1 h2 ⊢
      refine ⟨?_, fun z hz => ?_⟩
      · rcases List.mem_cons.mp h1 with q | q
        · rw [q]
          exact .head _
        · exact .tail _ (.tail _ q)
      · rcases List.mem_cons.mp hz with q | q
        · rw [q]
          exact h2 y (.head _)
        · rcases List.mem_cons.mp q with q | q
          · have := h2 y (.head _)
            omega
          · exact h2 z (.tail _ q)
theorem holds_is {h : Heap} {v : Value} {n : Int} (H : PySem.W.Holds h v n) : ∃ t, v = .int n t := by
  obtain ⟨as, r⟩ := H
  cases r with
  | int i t => exact ⟨t, rfl⟩
theorem pe_minD {X : Cx} {e d : Expr} {t : TA} {td : TE} {p pos kpos : Pos} (hc : X.calm = true) (hm : X.mg "min" = none) (hu : X.A.units + 1 < cLine) (ha : PA X [e] t) (hd : PE X d td) (hg : Gl X "min" := by rfl)
    (hs : starEach [e] X.env = [(false, eval e X.env)] := by rfl) : PE X (.Call (.Name "min" p) [e] [⟨some "default", d, kpos⟩] pos) (tMinD X.K t td) := by
  refine ⟨fun pins s σ H Q I h => ?_⟩
  refine wpAny_Call_Name_kw (ld_blt I hg hm boot_min ?_)
  refine PyProof.Rows.callWith_kw ?_ (by rw [hs]; rfl) (by rw [hs]; rfl)
  refine thn (ha.run pos pins s σ H _ I h) fun us s1 ⟨vs, H1, I1, r1, q1⟩ => ?_
  refine kws_cons (thn (hd.run pins s1 σ H1 _ I1 q1) fun u s2 ⟨v, H2, I2, r2, q2⟩ => kws_nil ?_)
  obtain ⟨a, ns, rfl, hq, h0, h1⟩ := q2
  obtain rfl := Vals.ref1 r1
  obtain ⟨its, rv, pl, _⟩ := I2.list hq
  show wpAny _ _ (call (.builtin "min") [.ref a] [(Str.ofString "default", u)]) _ _ s2
  refine PySem.W.min_list_datum_default (α := Int) (xs := ns) (vs := its.toArray) (I2.ok.hd hc) pl.isList (PySem.W.HoldAll.of_ints rv.ints) hu (fun e h' tk kp => ⟨v, H2, I2.kept kp, r2, h0 e⟩) fun y ys i x h' tk e hx hh kp => ?_
  obtain ⟨tt, rfl⟩ := holds_is hh
  obtain ⟨m1, m2⟩ := minOf_ok ys y
  rw [← e] at m1 m2
  exact ⟨.int _, H2, I2.kept kp, ⟨_, rfl⟩, h1 _ m1 m2⟩
/-! ### the least of some times -/
def natI (l : List Nat) : List Int := l.map fun (n : Nat) => (n : Int)
def minOf (l : List Nat) : List Int := Vbtwad.optionalResult (Vbtwad.minimumOf l)
theorem minimum_cons (a : Nat) : ∀ (l : List Nat), Vbtwad.minimumOf (a :: l) = some (l.foldl min a) := by
  intro l
  unfold Vbtwad.minimumOf
  rw [List.foldl_cons]
  dsimp only
  have : ∀ (l : List Nat) (x : Nat), l.foldl (fun o t => match o with
      | none => some t
      | some s => some (min s t)) (some x) = some (l.foldl min x) := by
    intro l
    induction l with
    | nil => exact fun _ => rfl
    | cons y l ih => exact fun x => ih (min x y)
  exact this l a
theorem fold_min : ∀ (l : List Nat) (a : Nat), (l.foldl min a ∈ a :: l) ∧ ∀ y ∈ a :: l, l.foldl min a ≤ y
  | [], a => ⟨.head _, fun y h => by
      rw [List.mem_singleton.mp h]
      exact Nat.le_refl _⟩
  | x :: l, a => by
    obtain ⟨h1, h2⟩ := fold_min l (min a x)
    rw [List.foldl_cons]
    refine ⟨?_, fun y hy => ?_⟩
    · rcases List.mem_cons.mp h1 with q | q
      · rw [q]
        rcases Nat.le_total a x with c | c
        · rw [Nat.min_eq_left c]
          exact .head _
        · rw [Nat.min_eq_right c]
          exact .tail _ (.head _)
      · exact .tail _ (.tail _ q)
    · have h3 := h2 (min a x) (.head _)
      rcases List.mem_cons.mp hy with q | q
      · rw [q]
        omega
      · rcases List.mem_cons.mp q with q | q
        · rw [q]
          omega
        · exact h2 y (.tail _ q)
theorem minimum_is {l : List Nat} {m : Int} (h1 : m ∈ natI l) (h2 : ∀ y ∈ natI l, m ≤ y) : ∃ k : Nat, m = (k : Int) ∧ Vbtwad.minimumOf l = some k := by
  cases l with
  | nil => cases h1
  | cons a l =>
    rw [minimum_cons]
    obtain ⟨f1, f2⟩ := fold_min l a
    obtain ⟨k, hk, rfl⟩ := List.mem_map.mp h1
    refine ⟨k, rfl, congrArg some ?_⟩
    have g1 := f2 k hk
    have g2 := h2 ((l.foldl min a : Nat) : Int) (List.mem_map.mpr ⟨_, f1, rfl⟩)
    omega
section
variable {P : Program} {w : World} {K : PySem.W.Frag} {mg : Str → Option Value} {base : Heap} {C : Cs}
/-! ### told_list, told_minimum -/
def tl (ns : List Int) : List Int := (ns.length : Int) :: ns
def spTold : Sp := fun vs H Q _ => ∃ (p : Addr) (ns : List Int), vs = [.ref p] ∧ H p = some (.lst (ns.map V.int)) ∧ ns.length ≤ 10000000 ∧ ∀ H' q, Same H H' → H q = none → H' q = some (.lst ((tl ns).map V.int)) → Q (.ref q) H'
theorem c_told_list (T : Txt K mg C) : C8.Cal P w K mg base 1 "told_list" spTold [] := by
  refine df_g T.g_told_list sc_told_list (fun vs H Q E h => ?_) (fun f cdv A outer s H vs Q E hr h => ?_)
  · obtain ⟨_, _, rfl, _⟩ := h
    rfl
  · obtain ⟨p, ns, rfl, hp, hn, k⟩ := h
    refine ⟨_, pss_one (ps_ret (pe_op op_cat (pe_lst (pa_cons (pe_ln T.b_len (pv 0)) pa_nil)) (pv 0))), ?_⟩
    have ev : EvX (tCB (rLn K) (tCons (tVar 0) tNil)) (L2.start ["numbers"] [V.ref p]) H (.int (ns.map V.int).length) := x_len (x_v 0) (.of hp)
    refine ev _ ⟨by show 1 ≤ sizeLine; decide, fun q nq => ?_⟩
    have npq : p ≠ q := ne_of_none hp nq
    refine ⟨_, rfl, q, p, _, _, rfl, rfl, upd_same, (upd_ne npq).trans hp, ?_, fun o no => ?_⟩
    · rw [List.length_map]
      exact Nat.le_trans (by show 1 + _ ≤ 10000001; omega) (by decide)
    refine k _ o ((same_new nq).trans (same_new no)) (Same.free (same_new nq) no) ?_
    rw [upd_same, List.length_map]
    rfl
def spToldMin (K : PySem.W.Frag) : Sp := fun vs H Q _ => ∃ (p : Addr) (ts : List Nat), vs = [.ref p] ∧ H p = some (.lst ((natI ts).map V.int)) ∧ ∀ H' q, Same H H' → H q = none → H' q = some (.lst ((minOf ts).map V.int)) → Q (.ref q) H'
theorem c_told_minimum (T : Txt K mg C) : C8.Cal P w K mg base 1 "told_minimum" (spToldMin K) [] := by
  refine df_g T.g_told_minimum sc_told_minimum (fun vs H Q E h => ?_) (fun f cdv A outer s H vs Q E hr h => ?_)
  · obtain ⟨_, _, rfl, _⟩ := h
    rfl
  · obtain ⟨p, ts, rfl, hp, k⟩ := h
    refine ⟨_, pss_one (ps_ret (pe_ifExp (pt_truth (pv 0) (by intro _; rfl)) (pe_lst (pa_cons pe_int (pa_cons (pe_callB (cr_min rfl) (by rfl) T.b_min (by decide +kernel) (pa_cons (pv 0) pa_nil)) pa_nil))) (pe_lst (pa_cons pe_int pa_nil)))), ?_⟩
    refine ⟨_, rfl, _, .inl ⟨_, .of hp, rfl⟩, if_c (fun e => ?_) (fun e => ?_)⟩
    · have hne : 0 < (natI ts).length := by
        cases h : natI ts with
        | nil =>
          rw [h] at e
          exact Bool.noConfusion e
        | cons a b => exact Nat.succ_pos _
      refine ⟨_, rfl, p, natI ts, rfl, .of hp, hne, fun m h1 h2 => ⟨by show 2 ≤ sizeLine; decide, fun q nq => ?_⟩⟩
      refine k _ q (same_new nq) nq ?_
      obtain ⟨n, rfl, hn⟩ := minimum_is h1 h2
      rw [upd_same]
      unfold minOf
      rw [hn]
      rfl
    · have hz : ts = [] := by
        cases ts with
        | nil => rfl
        | cons a b => exact Bool.noConfusion e
      subst hz
      refine ⟨by show 1 ≤ sizeLine; decide, fun q nq => k _ q (same_new nq) nq ?_⟩
      rw [upd_same]
      rfl
end
end W170

namespace W170
open PySem PySem.Spec PyProof.Rows L2
/-! ### for i, x in enumerate(xs, start=k): the counter begins at k -/
/-- turn i over the list at l, counted from k: a pair of k + i and the item -/
def ItS (K : PySem.W.Frag) (l : Addr) (k : Int) : It where
  go := fun i H => ∃ (ys : List V) (y : V), SqL K H l ys ∧ ys[i]? = some y
  yld := fun i H v H' => ∃ q y, v = .ref q ∧ H q = none ∧ H' = upd H q (.tup [.int (k + (i : Int)), y]) ∧ ∀ ys, SqL K H l ys → ys[i]? = some y
  stop := fun i H => ∃ ys : List V, SqL K H l ys ∧ ys.length = i
/-- where the two cells of the walk stand -/
def EnS (l e c : Addr) (k : Int) (i : Nat) (h : Heap) : Prop := (∃ o, IsEnum h e c (k + (i : Int)) o) ∧ h.IsListIter c l i ∧ e ≠ c ∧ l ≠ e ∧ l ≠ c
theorem two_mem {b e c : Addr} (h : b ∈ [e, c]) : b = e ∨ b = c := by simpa using h
theorem turnS {P : Program} {w : World} {K : PySem.W.Frag} {elts : List Expr} {kk : Nat} {tpos : Pos} (l e c : Addr) (k : Int) : Turn P w K (.Tuple elts kk tpos) (ItS K l k) [e, c] e (EnS l e c k) where
  mem := List.mem_cons_self ..
  obj := fun i h st b hb => by
    obtain ⟨⟨o, ho⟩, ⟨oc, hc, _, hd⟩, _⟩ := st
    cases two_mem hb with
    | inl z => exact z ▸ ⟨_, ho, fun v q => nomatch q⟩
    | inr z => exact z ▸ ⟨oc, hc, fun v q => by rw [hd] at q; cases q⟩
  keep := fun i h h' st kp => by
    obtain ⟨⟨o, ho⟩, hc, r⟩ := st
    exact ⟨⟨o, kp e (List.mem_cons_self ..) _ ho⟩, hc.at fun u q => kp c (List.mem_cons_of_mem _ (List.mem_cons_self ..)) u q, r⟩
  item := by
    intro X eP ew eK calm i pins s σ H E I free st g
    subst eP ew eK
    obtain ⟨⟨o, ho⟩, hc, nec, nle, nlc⟩ := st
    obtain ⟨ys, y, hys, hy⟩ := g
    obtain ⟨us, rus, pl, _⟩ := I.list hys
    obtain ⟨u, hu, ru⟩ := rus.get hy
    have hlt : i < us.toArray.size := by
      have := (List.getElem?_eq_some_iff.mp hu).1
      simpa using this
    have D := Draws.list (prog := X.prog) (w := X.w) (A := X.A.in1) (I.ok.hd calm) c l nlc us.toArray
    have bige : e < s.heap.objs.size := Heap.lt_size ho
    have bigc : c < s.heap.objs.size := by
      obtain ⟨_, q, _⟩ := hc
      exact Heap.lt_size q
    refine wpAny_pyNext_enum_itemC D ho ⟨hc, pl.isList⟩ hlt nec (fun z => (two_mem z).elim nec fun z => nle z.symm) fun x h1 tk hx out st1 hT _ kp => ?_
    have ex : x = u := by
      have hx' : us.toArray[i]? = some x := hx
      rw [List.getElem?_toArray, hu] at hx'
      exact (Option.some.inj hx').symm
    subst ex
    refine ⟨_, rfl, wpAny_letOwnedTupleGo_enum (s := { s with heap := h1, toks := tk + 1 }) out fun h2 he2 sb => ?_⟩
    have hT2 : h2.get? s.heap.objs.size = some { cls := .type "tuple", data := .seq #[.int (k + (i : Int)) tk, x] } := (sb.2 _ (Nat.ne_of_gt bige)).trans hT
    have fresh : ObjOk X.prog X.w (upd H s.heap.objs.size (.tup [.int (k + (i : Int)), y])) h2 s.heap.objs.size (.tup [.int (k + (i : Int)), y]) :=
      ⟨by show 2 ≤ sizeLine; decide, [.int (k + (i : Int)) tk, x], .cons ⟨_, rfl⟩ (.cons ru .nil), _, hT2, rfl, _, rfl⟩
    have I2 : Inv X pins σ (upd H s.heap.objs.size (.tup [.int (k + (i : Int)), y])) { s with heap := h2, toks := tk + 1 } :=
      I.turnedNew (ch := [e, c]) (fun b ob nb q => (sb.2 b fun z => nb (z ▸ List.mem_cons_self ..)).trans (kp b ob (fun z => nb (z ▸ List.mem_cons_self ..)) (fun z => nb (z ▸ List.mem_cons_of_mem _ (List.mem_cons_self ..))) q)) free (Nat.le_refl _) fresh
    refine ⟨.ref s.heap.objs.size, _, I2, rfl, ⟨_, y, rfl, I.hok.fresh (Nat.le_refl _), rfl, fun zs hz => (I.list_inj hz hys) ▸ hy⟩, ⟨⟨x, ?_⟩, st1.1.at fun o q => (sb.2 c (Ne.symm nec)).trans q, nec, nle, nlc⟩, fun b hb => ?_⟩
    · rw [show k + ((i + 1 : Nat) : Int) = k + (i : Int) + 1 by omega]
      exact he2
    · have small : b < s.heap.objs.size := (two_mem hb).elim (fun z => z ▸ bige) fun z => z ▸ bigc
      rw [upd_ne (Nat.ne_of_lt small)]
      exact (free b hb).1
  done := by
    intro X eP ew eK calm i pins s σ H E I free st g
    subst eP ew eK
    obtain ⟨⟨o, ho⟩, hc, nec, nle, nlc⟩ := st
    obtain ⟨ys, hys, hlen⟩ := g
    obtain ⟨us, rus, pl, _⟩ := I.list hys
    obtain ⟨f0, f1, f2, f3, f4, f5⟩ := free c (List.mem_cons_of_mem _ (List.mem_cons_self ..))
    have lu := rus.length
    have D := Draws.list (prog := X.prog) (w := X.w) (A := X.A.in1) (I.ok.hd calm) c l nlc us.toArray
    have hi : us.toArray.size = i := by
      rw [List.size_toArray]
      omega
    have st2 : s.heap.IsListIter c l us.toArray.size ∧ s.heap.IsList l us.toArray := ⟨hi ▸ hc, pl.isList⟩
    exact wpAny_pyNext_enum_endD D ho st2 fun h2 eb => ⟨rfl, I.turned (t' := s.toks) (fun b u nb q => eb b u nb q) f0 f1 f3 f4 f5⟩
  self := fun A i s Q E st h => by
    obtain ⟨⟨_, ho⟩, _⟩ := st
    exact wpAny_pyIter_enum ho h
section
variable {M : Model} {A : Around} {E : Value → Shared → Prop} {s : Shared} {env : Env}
/-- a built-in class called with keywords -/
theorem typeKw {pos : Pos} {T : String} {as : List (Bool × Sem Value)} {ks : List (Option Str × Sem Value)} {Q : Value → Shared → Prop} (h1 : as.any (·.1) = false) (h2 : ks.any (·.1.isNone) = false)
    (h : wpAny M A (evalArgs (.type T) true as ks) (fun a s1 => wpAny M A (call (.type T) ([] ++ a.pos) a.kw) Q E s1) E s) : wpAny M A (callWith pos (.type T) [] as ks) Q E s := by
  unfold callWith
  refine wpAny_bind (wpAny_holding (wpAny_mono h (fun a s1 q => wpAny_bind (wpAny_standAt ?_)) fun _ _ z => z))
  simp only [h1, h2, Bool.or_false]
  exact wpAny_bind (wpAny_pure (wpAny_bind (wpAny_mono q (fun r s2 z => wpAny_bind (wpAny_holding (wpAny_point (wpAny_pure z)))) fun _ _ z => z)))
end
def iEnS (K : PySem.W.Frag) (k : Int) (t : TA) : TI := fun σ H R => t σ H fun vs H1 => ∃ l xs, vs = [.ref l] ∧ SqL K H1 l xs ∧ R (ItS K l k) H1
theorem pi_enumS {X : Cx} {e : Expr} {t : TA} {k : Int} {n : Nat} {cp p pos tpos kpos : Pos} {elts : List Expr} {kk : Nat} (hm : X.mg "enumerate" = none) (he : PA X [e] t) (hk0 : -(2 ^ 63) ≤ k := by decide) (hk1 : k < 2 ^ 63 := by decide) (hg : Gl X "enumerate" := by rfl)
    (hs : starEach [e] X.env = [(false, eval e X.env)] := by rfl) :
    PI X (.Tuple elts kk tpos) (.Call (.Name "enumerate" p) [e] [⟨some "start", .Constant (.int k) n cp, kpos⟩] pos) (iEnS X.K k t) := by
  refine ⟨fun pins s σ H R I h => ?_⟩
  have heq : backTo pos (starEach [e] X.env) = (false, eval e X.env) :: [] := by
    rw [hs]
    rfl
  refine wpAny_Call_Name_kw (ld_blt I hg hm boot_enumerate ?_)
  rw [heq]
  refine typeKw rfl rfl (evalArgs_kwB rfl ?_)
  rw [← heq]
  refine thn (he.run pos pins s σ H _ I h) fun us s1 ⟨vs, H1, I1, r1, q1⟩ => ?_
  obtain ⟨l, xs, ex, hq, q⟩ := q1
  subst ex
  refine kws_cons (thn ((pe_int (X := X) (i := k)).run pins s1 σ H1 (fun v H2 => v = .int k ∧ H2 = H1) I1 ⟨rfl, rfl⟩) fun u s2 ⟨v, H2, I2, r2, e2⟩ => kws_nil ?_)
  obtain ⟨rfl, rfl⟩ := e2
  obtain ⟨tk, rfl⟩ := r2
  cases r1 with
  | cons r rr =>
    cases rr
    cases r
    obtain ⟨its, rv, pl, _⟩ := I2.list hq
    refine enum_begins_start (begins_list l its.toArray) pl.isList hk0 hk1 fun h1 he1 hit hsz kp => wpAny_pyIter_enum he1 ?_
    have I3 : Inv X pins σ H2 { s2 with heap := h1 } := I2.kept (t' := s2.toks) kp
    have ll : l < s2.heap.objs.size := by
      obtain ⟨o, _, g, _⟩ := pl
      exact Heap.lt_size g
    refine ⟨s2.heap.objs.size + 1, [s2.heap.objs.size + 1, s2.heap.objs.size], EnS l (s2.heap.objs.size + 1) s2.heap.objs.size k, ItS X.K l k, H2, rfl, I3, turnS l _ _ k, ⟨⟨.none, ?_⟩, ⟨_, hit, rfl, rfl⟩, Nat.succ_ne_self _, ?_, ?_⟩, fun b hb => ?_, q⟩
    · rw [show k + ((0 : Nat) : Int) = k by omega]
      exact he1
    · exact Nat.ne_of_lt (Nat.lt_succ_of_lt ll)
    · exact Nat.ne_of_lt ll
    · have big : s2.heap.objs.size ≤ b := (two_mem hb).elim (fun z => z ▸ Nat.le_succ _) fun z => z ▸ Nat.le_refl _
      exact I2.fpOk big (I2.hok.fresh big)
/-- a loop over it, the list standing still -/
theorem for_enS {K : PySem.W.Frag} {l : Addr} {k : Int} {xs : List V} {g : TG} {tb : TS} {D : Ends} {σ : L2.St} {H : Hp} (Pv : Nat → L2.St → Hp → Prop) (h0 : Pv 0 σ H) (hl : ∀ i σ H, Pv i σ H → SqL K H l xs)
    (hs : ∀ (i : Nat) (x : V) (q : Addr) (σ : L2.St) (H : Hp), xs[i]? = some x → Pv i σ H → H q = none → g (.ref q) σ (upd H q (.tup [.int (k + (i : Int)), x])) fun σ2 H2 => tb { D with nx := Pv (i + 1), ct := Pv (i + 1), bk := D.nx } σ2 H2) (hd : ∀ σ H, Pv xs.length σ H → D.nx σ H) :
    ∃ W : Nat → Nat → L2.St → Hp → Prop, (∃ m, W 0 m σ H) ∧ ∀ i m σ H, W i m σ H →
      ((ItS K l k).stop i H ∧ D.nx σ H) ∨ ((ItS K l k).go i H ∧ ∃ N : L2.St → Hp → Prop, (∀ σ' H', N σ' H' → ∃ m', m' < m ∧ W (i + 1) m' σ' H') ∧ ∀ v H', (ItS K l k).yld i H v H' → g v σ H' fun σ2 H2 => tb { D with nx := N, ct := N, bk := D.nx } σ2 H2) := by
  refine ⟨fun i m σ H => i + m = xs.length ∧ Pv i σ H, ⟨xs.length, by omega, h0⟩, fun i m σ H w => ?_⟩
  obtain ⟨im, p⟩ := w
  rcases Nat.lt_or_ge i xs.length with lt | ge
  · have hx := List.getElem?_eq_getElem lt
    refine .inr ⟨⟨xs, _, hl i σ H p, hx⟩, Pv (i + 1), fun σ' H' p' => ⟨m - 1, by omega, by omega, p'⟩, fun v H' y => ?_⟩
    obtain ⟨q, z, rfl, nq, rfl, same⟩ := y
    exact hs i z q σ H (same xs (hl i σ H p)) p nq
  · obtain rfl : i = xs.length := by omega
    exact .inl ⟨⟨xs, hl _ σ H p, rfl⟩, hd σ H p⟩
end W170

namespace W170
open PySem PySem.Spec PyProof.Rows L2
/-! ### the checksum, told as the loop does -/
def csum : Nat → List Int → Int
  | _, [] => 0
  | j, x :: r => ((j + 1 : Nat) : Int) * x + csum (j + 1) r
theorem csum_zip : ∀ (l : List Int) (k : Nat), ((l.zipIdx k).map fun x => ((x.2 + 1 : Nat) : Int) * x.1).foldr (fun a b => a + b) 0 = csum k l
  | [], _ => rfl
  | x :: r, k => by
    rw [List.zipIdx_cons, List.map_cons, List.foldr_cons, csum_zip r (k + 1)]
    rfl
theorem cks_eq (l : List Int) : Vbtwad.checksumOf l = (97 * (l.length : Int) + csum 0 l) % 1000003 := by
  unfold Vbtwad.checksumOf Vbtwad.checksumModulus
  rw [csum_zip, Int.add_comm]
theorem csum_drop {l : List Int} {i : Nat} {x : Int} (h : l[i]? = some x) : csum i (l.drop i) = ((i + 1 : Nat) : Int) * x + csum (i + 1) (l.drop (i + 1)) := by
  obtain ⟨a, e⟩ := List.getElem?_eq_some_iff.mp h
  rw [List.drop_eq_getElem_cons a, e]
  rfl
theorem map_get {α : Type} {f : α → V} {l : List α} {i : Nat} {y : V} (h : (l.map f)[i]? = some y) : ∃ x, l[i]? = some x ∧ f x = y := by
  rw [List.getElem?_map] at h
  obtain ⟨x, h1, h2⟩ := Option.map_eq_some_iff.mp h
  exact ⟨x, h1, h2⟩
theorem get_map {α : Type} {f : α → V} {l : List α} {i : Nat} {x : α} (h : l[i]? = some x) : (l.map f)[i]? = some (f x) := by
  rw [List.getElem?_map, h]
  rfl
theorem numMeant_first {f : Int} {M lo cnt i : Nat} (h : ∀ j, j < i → ¬ (((lo + j) % M : Nat) : Int) = f) (hi : i < cnt) (e : (((lo + i) % M : Nat) : Int) = f) : numMeant f M lo cnt = some (lo + i) := by
  unfold numMeant
  rw [List.find?_map]
  have : (List.range cnt).find? ((fun x => ((x % M : Nat) : Int) == f) ∘ fun i => lo + i) = some i := by
    rw [List.find?_range_eq_some]
    refine ⟨?_, List.mem_range.mpr hi, fun j hj => ?_⟩
    · show ((((lo + i) % M : Nat) : Int) == f) = true
      rw [e]
      exact beq_self_eq_true f
    · show (!((((lo + j) % M : Nat) : Int) == f)) = true
      rw [beq_eq_false_iff_ne.mpr (h j hj)]
      rfl
  rw [this]
  rfl
theorem numMeant_no {f : Int} {M lo cnt : Nat} (h : ∀ j, j < cnt → ¬ (((lo + j) % M : Nat) : Int) = f) : numMeant f M lo cnt = none := by
  cases e : numMeant f M lo cnt with
  | none => rfl
  | some n =>
    obtain ⟨h1, h2, h3⟩ := numMeant_some e
    obtain ⟨j, rfl⟩ : ∃ j, n = lo + j := ⟨n - lo, by omega⟩
    exact absurd h3 (h j (by omega))
theorem cast_mod (a i M : Nat) : (((a + i) % M : Nat) : Int) = ((a : Int) + (i : Int)) % (M : Int) := by rw [Int.natCast_emod, Int.natCast_add]
def optV : Option Nat → V
  | none => .non
  | some n => .int (n : Int)
section
variable {P : Program} {w : World} {K : PySem.W.Frag} {mg : Str → Option Value} {base : Heap} {C : Cs}
def spCks (K : PySem.W.Frag) : Sp := fun vs H Q _ => ∃ (l : Addr) (fs : List Int), vs = [.ref l] ∧ SqL K H l (fs.map V.int) ∧ fs.length ≤ 1000 ∧ ∀ H', Same H H' → Q (.int (Vbtwad.checksumOf fs)) H'
theorem c_checksum_of (T : Txt K mg C) : C8.Cal P w K mg base 1 "checksum_of" (spCks K) [] := by
  refine df_g T.g_checksum_of sc_checksum_of (fun vs H Q E h => ?_) (fun f cdv A outer s H vs Q E hr h => ?_)
  · obtain ⟨_, _, rfl, _⟩ := h
    rfl
  · obtain ⟨l, fs, rfl, hl, hn, k⟩ := h
    refine ⟨_, pss_cons (ps_set (i := 1) sc_checksum_of.nd rfl (.inl rfl) (pe_op op_mul pe_int (pe_ln T.b_len (pv 0))))
      (pss_cons (ps_for PassesOwn.never rfl (pi_enumS T.b_enumerate (pa_cons (pv 0) pa_nil)) (pg_tup rfl (pgs_cons (pg_name (i := 2) sc_checksum_of.nd rfl (.inl rfl)) (pgs_cons (pg_name (i := 3) sc_checksum_of.nd rfl (.inl rfl)) pgs_nil)))
        (pss_one (ps_aug (i := 1) sc_checksum_of.nd rfl (.inl rfl) (pe_op op_mul (pv 2) (pv 3)) ip_add)))
      (pss_one (ps_ret (pe_op op_mod (pv 1) (pe_gi T.n_CHECKSUM_MODULUS))))), ?_⟩
    refine y_asg (x_iC x_c (x_len (x_v 0) hl) (.inl ⟨by decide, by decide⟩)) ?_
    refine ⟨_, rfl, l, _, rfl, hl, for_enS (K := K) (xs := fs.map V.int) (fun i σ H' => ∃ (tot : Int) (y z : Option V), σ = [some (.ref l), some (.int tot), y, z] ∧ Same H H' ∧ tot + csum i (fs.drop i) = 97 * (fs.length : Int) + csum 0 fs) ⟨_, _, _, rfl, Same.refl _, ?_⟩ (fun i σ H' h => ?_) ?_ ?_⟩
    · rw [List.length_map]
      rfl
    · obtain ⟨_, _, _, _, sm, _⟩ := h
      exact sm.seq hl
    · rintro i x q σ H' hx ⟨tot, y, z, rfl, sm, e⟩ nq
      obtain ⟨n, hn', rfl⟩ := map_get hx
      have hi : i < fs.length := (List.getElem?_eq_some_iff.mp hn').1
      refine ⟨q, _, rfl, .of upd_same, rfl, _, _, rfl, _, _, rfl, rfl, ?_⟩
      refine ⟨_, rfl, _, rfl, _, rfl, _, _, rfl, rfl, .inl ⟨by omega, by omega⟩, _, _, rfl, rfl, ?_⟩
      refine ⟨_, _, _, rfl, sm.trans (same_new nq), ?_⟩
      rw [csum_drop hn'] at e
      rw [← e]
      show tot + (1 + (i : Int)) * n + csum (i + 1) (fs.drop (i + 1)) = tot + (((i + 1 : Nat) : Int) * n + csum (i + 1) (fs.drop (i + 1)))
      rw [show (1 : Int) + (i : Int) = ((i + 1 : Nat) : Int) by omega, Int.add_assoc]
    · rintro σ H' ⟨tot, y, z, rfl, sm, e⟩
      dsimp only
      refine y_ret (x_iC (x_v 1) x_c (by show (0 : Int) < 1000003; decide)) ?_
      have := k _ sm
      rw [cks_eq, ← e, List.length_map, List.drop_length] at this
      show Q (V.int (tot % 1000003)) H'
      have z0 : tot + csum fs.length [] = tot := by
        show tot + 0 = tot
        omega
      rw [z0] at this
      exact this
def spMeant : Sp := fun vs H Q _ => ∃ (f hi : Int) (M lo cnt : Nat), vs = [.int f, .int M, .int lo, .int hi] ∧ 0 < M ∧ hi + 1 = (lo : Int) + cnt ∧ lo < 2 ^ 60 ∧ cnt < 2 ^ 60 ∧ Q (optV (numMeant f M lo cnt)) H
theorem c_number_meant (T : Txt K mg C) : C8.Cal P w K mg base 1 "number_meant" spMeant [] := by
  refine df_g T.g_number_meant sc_number_meant (fun vs H Q E h => ?_) (fun f cdv A outer s H vs Q E hr h => ?_)
  · obtain ⟨_, _, _, _, _, rfl, _⟩ := h
    rfl
  · obtain ⟨fd, hi, M, lo, cnt, rfl, hM, hh, b1, b2, k⟩ := h
    refine ⟨_, pss_cons (ps_for PassesOwn.never rfl (pi_range2 (by rfl) T.b_range (pa_cons (pv 2) (pa_cons (pe_op op_add (pv 3) pe_int) pa_nil))) (pg_name (i := 4) sc_number_meant.nd rfl (.inl rfl))
        (pss_one (ps_if (pt_cmpR op_eq (pe_op op_mod (pv 4) (pv 1)) (pv 0) (nomark _)) (pss_one (ps_ret (pv 4))) pss_nil)))
      (pss_one (ps_ret pe_non)), ?_⟩
    refine ⟨_, rfl, _, rfl, _, _, rfl, rfl, _, _, rfl, ⟨by omega, by omega, by omega, by omega⟩, for_range (lo := (lo : Int)) (n := (hi + 1 - (lo : Int)).toNat) (fun i σ H' => ∃ y, σ = [some (.int fd), some (.int M), some (.int lo), some (.int hi), y] ∧ H' = H ∧ ∀ j, j < i → ¬ (((lo + j) % M : Nat) : Int) = fd) ⟨_, rfl, rfl, fun j h => absurd h (Nat.not_lt_zero j)⟩ ?_ ?_⟩
    · rintro i σ H' hi' ⟨y, rfl, rfl, no⟩
      have lt : i < cnt := by omega
      refine y_if (x_test (x_eqI (x_iC (x_v 4) (x_v 1) (by show (0 : Int) < M; omega)) (x_v 0))) (fun e => ?_) (fun e => ?_)
      · refine y_ret (x_v 4) ?_
        have e' : (((lo + i) % M : Nat) : Int) = fd := by
          have := of_decide_eq_true e
          rw [← this]
          exact cast_mod lo i M
        rw [numMeant_first no lt e'] at k
        exact k
      · have e' := of_decide_eq_false e
        refine ⟨_, rfl, rfl, fun j hj => ?_⟩
        rcases Nat.lt_or_eq_of_le (Nat.le_of_lt_succ hj) with q | q
        · exact no j q
        · subst q
          intro z
          apply e'
          rw [← z]
          exact (cast_mod lo j M).symm
    · rintro σ H' ⟨y, rfl, rfl, no⟩
      dsimp only
      refine y_ret x_c ?_
      rw [numMeant_no fun j hj => no j (by omega)] at k
      exact k
end
end W170

namespace W170
open PySem PySem.Spec PyProof.Rows L2
section
variable {P : Program} {w : World} {K : PySem.W.Frag} {mg : Str → Option Value} {base : Heap} {C : Cs}
theorem same_upd {H H' : Hp} {p : Addr} {o : HO} (h : Same H H') (hp : H p = none) : Same H (upd H' p o) := fun b u e => by
  rw [upd_ne (ne_of_none e hp)]
  exact h b u e
/-! ### Packet -/
def spPkInit (C : Cs) : Sp := fun vs H Q _ => ∃ (p dx f : Addr) (fs : List Int) (ser : Nat), vs = [.ref p, .ref f, .int ser] ∧ H p = some (.ins C.Packet dx []) ∧ H f = some (.lst (fs.map V.int)) ∧ fs.length ≤ 1000 ∧
  ∀ H' : Hp, H' p = some (.ins C.Packet dx (F_Packet (.ref f) (.int (Vbtwad.checksumOf fs)) (.int ser))) → (∀ b o, H b = some o → b ≠ p → H' b = some o) → Q .non H'
theorem k_Packet (T : Txt K mg C) : C8.Mak P w K mg base 2 "Packet" C.Packet (spPkInit C) [] := by
  have cC : C8.Cal P w K mg base 1 "checksum_of" (spCks K) [] := c_checksum_of T
  have cl := T.k_Packet.cl
  refine df_c T.k_Packet sc_Packet_init (fun vs H Q E h => ?_) (fun f cdv A outer s H vs Q E hr h => ?_)
  · obtain ⟨_, _, _, _, _, rfl, _⟩ := h
    rfl
  · obtain ⟨p, dx, f', fs, ser, rfl, hp, hf, hn, k⟩ := h
    refine ⟨_, pss_cons (ps_fld (pv 0) (pv 1) rfl) (pss_cons (ps_fld (pv 0) (C8.pe_c cC hr (by decide) (by rfl) (pa_cons (pv 1) pa_nil)) rfl) (pss_one (ps_fld (pv 0) (pv 2) rfl))), ?_⟩
    refine y_fld (x_v 1) (x_v 0) hp cl (no_Packet_fields T) (lt_nil (by decide)) ?_
    have nf : f' ≠ p := ne_of hf hp (fun z => by cases z)
    have hf1 : (upd H p (.ins C.Packet dx (putF "fields" (.ref f') []))) f' = some (.lst (fs.map V.int)) := by
      rw [upd_ne nf]
      exact hf
    refine ⟨_, rfl, f', fs, rfl, .of hf1, hn, fun H2 sm => ?_⟩
    have hp2 := sm p _ upd_same
    refine ⟨_, rfl, p, C.Packet, dx, _, rfl, hp2, cl, no_Packet_checksum T, lt_put (n := 999) (lt_nil (by decide)), ?_⟩
    refine y_fld (x_v 2) (x_v 0) upd_same cl (no_Packet_sent_before T) (lt_put (n := 999) (lt_put (n := 998) (lt_nil (by decide)))) ?_
    refine k _ ?_ fun b o e hb => ?_
    · rw [upd_same, new_Packet]
    · rw [upd_ne hb, upd_ne hb]
      refine sm b o ?_
      rw [upd_ne hb]
      exact e
def spPkCor (K : PySem.W.Frag) (C : Cs) : Sp := fun vs H Q _ => ∃ (p dx f : Addr) (fs : List Int) (ck : Int) (sv : V), vs = [.ref p] ∧ H p = some (.ins C.Packet dx (F_Packet (.ref f) (.int ck) sv)) ∧ SqL K H f (fs.map V.int) ∧ fs.length ≤ 1000 ∧
  ∀ H', Same H H' → Q (.bl (!decide (ck = Vbtwad.checksumOf fs))) H'
theorem m_is_corrupted (T : Txt K mg C) : C8.Met P w K mg base 2 C.Packet "is_corrupted" (spPkCor K C) [] := by
  have cC : C8.Cal P w K mg base 1 "checksum_of" (spCks K) [] := c_checksum_of T
  have cl := T.k_Packet.cl
  refine df_m T.m_Packet_is_corrupted sc_Packet_is_corrupted (fun vs H Q E h => ?_) (fun f cdv A outer s H vs Q E hr h => ?_)
  · obtain ⟨_, _, _, _, _, _, rfl, _⟩ := h
    rfl
  · obtain ⟨p, dx, f', fs, ck, sv, rfl, hp, hf, hn, k⟩ := h
    refine ⟨_, pss_one (ps_ret (pe_cmpR op_ne (pe_fld (pv 0) rfl) (C8.pe_c cC hr (by decide) (by rfl) (pa_cons (pe_fld (pv 0) rfl) pa_nil)) (nomark _))), ?_⟩
    refine y_retop (x_fld (x_v 0) hp cl (no_Packet_checksum T) lk_Packet_checksum) (x_call (x_cons (x_fld (x_v 0) hp cl (no_Packet_fields T) lk_Packet_fields) x_nil) ⟨f', fs, rfl, hf, hn, fun H2 sm => ⟨rfl, ?_⟩⟩)
    have e : decide (V.int ck = V.int (Vbtwad.checksumOf fs)) = decide (ck = Vbtwad.checksumOf fs) := by
      by_cases z : ck = Vbtwad.checksumOf fs
      · rw [z, decide_eq_true rfl, decide_eq_true rfl]
      · rw [decide_eq_false z, decide_eq_false fun q => z (V.int.inj q)]
    rw [e]
    exact k H2 sm
def spPkHas (K : PySem.W.Frag) (C : Cs) : Sp := fun vs H Q _ => ∃ (p dx f : Addr) (fs : List Int) (cv sv : V) (i : Int), vs = [.ref p, .int i] ∧ H p = some (.ins C.Packet dx (F_Packet (.ref f) cv sv)) ∧ SqL K H f (fs.map V.int) ∧
  Q (.bl (decide (0 ≤ i) && decide (i ≤ (fs.length : Int)))) H
theorem m_has_place (T : Txt K mg C) : C8.Met P w K mg base 1 C.Packet "has_place" (spPkHas K C) [] := by
  have cl := T.k_Packet.cl
  refine df_m T.m_Packet_has_place sc_Packet_has_place (fun vs H Q E h => ?_) (fun f cdv A outer s H vs Q E hr h => ?_)
  · obtain ⟨_, _, _, _, _, _, _, rfl, _⟩ := h
    rfl
  · obtain ⟨p, dx, f', fs, cv, sv, i, rfl, hp, hf, k⟩ := h
    refine ⟨_, pss_one (ps_ret (pe_chain op_le op_le pe_int (pv 1) (pe_ln T.b_len (pe_fld (pv 0) rfl)))), ?_⟩
    refine y_ret (x_chain x_c (x_v 1) r_le (x_len (x_fld (x_v 0) hp cl (no_Packet_fields T) lk_Packet_fields) hf) r_le) ?_
    rw [List.length_map]
    exact k
def spPkChange (C : Cs) : Sp := fun vs H Q _ => ∃ (p dx f : Addr) (fs : List Int) (ck z : Int) (sv : V) (i : Nat), vs = [.ref p, .int i, .int z] ∧ H p = some (.ins C.Packet dx (F_Packet (.ref f) (.int ck) sv)) ∧ H f = some (.lst (fs.map V.int)) ∧ i ≤ fs.length ∧
  (i = fs.length → Q .non (upd H p (.ins C.Packet dx (F_Packet (.ref f) (.int z) sv)))) ∧ (i < fs.length → Q .non (upd H f (.lst ((fs.set i z).map V.int))))
theorem m_change (T : Txt K mg C) : C8.Met P w K mg base 1 C.Packet "change" (spPkChange C) [] := by
  have cl := T.k_Packet.cl
  refine df_m T.m_Packet_change sc_Packet_change (fun vs H Q E h => ?_) (fun f cdv A outer s H vs Q E hr h => ?_)
  · obtain ⟨_, _, _, _, _, _, _, _, rfl, _⟩ := h
    rfl
  · obtain ⟨p, dx, f', fs, ck, z, sv, i, rfl, hp, hf, hi, k1, k2⟩ := h
    refine ⟨_, pss_one (ps_if (pt_cmpR op_eq (pv 1) (pe_ln T.b_len (pe_fld (pv 0) rfl)) (nomark _)) (pss_one (ps_fld (pv 0) (pv 2) rfl)) (pss_one (ps_asg (pv 2) (pg_sub (pe_fld (pv 0) rfl) (pv 1) set_list)))), ?_⟩
    have hff := x_fld (K := K) (σ := L2.start ["self", "place", "number"] [V.ref p, V.int i, V.int z]) (x_v 0) hp cl (no_Packet_fields T) lk_Packet_fields
    refine y_if (x_test (x_eqI (x_v 1) (x_len hff (.of hf)))) (fun e => ?_) (fun e => ?_)
    · have e' := of_decide_eq_true e
      rw [List.length_map] at e'
      refine y_fld (x_v 2) (x_v 0) hp cl (no_Packet_checksum T) len_Packet ?_
      rw [put_Packet_checksum]
      exact k1 (by omega)
    · have e' := of_decide_eq_false e
      rw [List.length_map] at e'
      have lt : i < fs.length := by omega
      refine ⟨_, rfl, hff _ ⟨_, rfl, f', _, i, i, rfl, rfl, hf, ?_, ?_⟩⟩
      · rw [List.length_map]
        unfold ixN
        rw [if_pos (by omega), if_pos (by omega)]
        rfl
      · rw [← List.map_set]
        exact k2 lt
end
end W170

namespace W170
open PySem PySem.Spec PyProof.Rows L2
/-! ### a channel as it lies in the heap: of link i, part j -/
def PkAt (C : Cs) (g : Gh) (H : Hp) (i j : Nat) (q : Addr) (k : Pk) : Prop := ∃ dx f, At g H (i, j, 2 * k.ser + 2) q (.ins C.Packet dx (F_Packet (.ref f) (.int k.ck) (.int k.ser))) ∧ At g H (i, j, 2 * k.ser + 3) f (.lst (k.fs.map V.int))
def ChAt (C : Cs) (g : Gh) (H : Hp) (i j : Nat) (a : Addr) (c : Ch) : Prop := ∃ dx l qs, At g H (i, j, 0) a (.ins C.Channel dx (F_Channel (.int c.life) (.int c.sent) (.ref l))) ∧ At g H (i, j, 1) l (.lst (qs.map V.ref)) ∧ Paired (PkAt C g H i j) qs c.pk
structure ChOk (c : Ch) : Prop where
  inc : c.pk.Pairwise fun x y => x.ser < y.ser
  lt : ∀ k ∈ c.pk, k.ser < c.sent
  young : ∀ k ∈ c.pk, c.sent ≤ k.ser + c.life
  len : ∀ k ∈ c.pk, 1 ≤ k.fs.length ∧ k.fs.length ≤ 100
  life : c.life ≤ 20
theorem role_ne {i j a b : Nat} (h : a ≠ b) : ((i, j, a) : Role) ≠ (i, j, b) := fun z => h (congrArg (fun r : Role => r.2.2) z)
/-- the roles of a part -/
def Part (i j : Nat) : Role → Prop := fun r => r.1 = i ∧ r.2.1 = j
theorem PkAt.mv {C : Cs} {S : Role → Prop} {g g' : Gh} {H H' : Hp} {i j : Nat} {q : Addr} {k : Pk} (a : PkAt C g H i j q k) (m : Mv S g H g' H') (h1 : ¬ S (i, j, 2 * k.ser + 2)) (h2 : ¬ S (i, j, 2 * k.ser + 3)) : PkAt C g' H' i j q k := by
  obtain ⟨dx, f, a1, a2⟩ := a
  exact ⟨dx, f, a1.mv m h1, a2.mv m h2⟩
theorem ChAt.mv {C : Cs} {S : Role → Prop} {g g' : Gh} {H H' : Hp} {i j : Nat} {a : Addr} {c : Ch} (h : ChAt C g H i j a c) (m : Mv S g H g' H') (hs : ∀ n, ¬ S (i, j, n)) : ChAt C g' H' i j a c := by
  obtain ⟨dx, l, qs, a1, a2, a3⟩ := h
  exact ⟨dx, l, qs, a1.mv m (hs _), a2.mv m (hs _), Paired.mapP a3 fun q k p => p.mv m (hs _) (hs _)⟩
theorem Paired.snoc {α β : Type} {F : α → β → Prop} {x : α} {y : β} (h : F x y) : ∀ {l : List α} {m : List β}, Paired F l m → Paired F (l ++ [x]) (m ++ [y])
  | _, _, .nil => .cons h .nil
  | _, _, .cons r t => .cons r (Paired.snoc h t)
theorem Paired.get {α β : Type} {F : α → β → Prop} : ∀ {l : List α} {m : List β} {i : Nat} {x : α}, Paired F l m → l[i]? = some x → ∃ y, m[i]? = some y ∧ F x y
  | _, _, _, _, .nil, h => by simp at h
  | _, _, 0, _, .cons r _, h => ⟨_, rfl, by
      have e := Option.some.inj h
      rw [← e]
      exact r⟩
  | _, _, i + 1, _, .cons _ t, h => Paired.get (i := i) t h
theorem zip_snoc {α β : Type} {l : List (α × β)} {i : Nat} {x : α × β} (h : l[i]? = some x) : l.take (i + 1) = l.take i ++ [x] := by
  rw [List.take_add_one, h]
  rfl
def sift {α β : Type} (p : β → Bool) (l : List (α × β)) : List α := (l.filter fun x => p x.2).map (·.1)
theorem sift_ok {α β : Type} {F : α → β → Prop} (p : β → Bool) : ∀ {l : List α} {m : List β}, Paired F l m → Paired F (sift p (l.zip m)) (m.filter p)
  | _, _, .nil => .nil
  | x :: l, y :: m, .cons r t => by
    have ih := sift_ok p t
    unfold sift at ih ⊢
    rw [List.zip_cons_cons, List.filter_cons, List.filter_cons]
    by_cases c : p y = true
    · rw [if_pos c, if_pos c, List.map_cons]
      exact .cons r ih
    · rw [if_neg c, if_neg c]
      exact ih
theorem sift_snoc {α β : Type} (p : β → Bool) (l : List (α × β)) (x : α × β) : sift p (l ++ [x]) = sift p l ++ (if p x.2 = true then [x.1] else []) := by
  unfold sift
  rw [List.filter_append, List.map_append]
  congr 1
  rw [List.filter_cons]
  by_cases c : p x.2 = true
  · rw [if_pos c, if_pos c]
    rfl
  · rw [if_neg c, if_neg c]
    rfl
theorem sift_len {α β : Type} (p : β → Bool) (l : List (α × β)) : (sift p l).length ≤ l.length := by
  unfold sift
  rw [List.length_map]
  exact List.length_filter_le _ _
theorem zip_get {α β : Type} {F : α → β → Prop} : ∀ {l : List α} {m : List β} {i : Nat} {x : α} {y : β}, Paired F l m → l[i]? = some x → m[i]? = some y → (l.zip m)[i]? = some (x, y)
  | _, _, _, _, _, .nil, h, _ => by simp at h
  | _ :: _, _ :: _, 0, _, _, .cons _ _, h, h' => by
    have e := Option.some.inj h
    have e' := Option.some.inj h'
    rw [← e, ← e']
    rfl
  | _ :: _, _ :: _, i + 1, _, _, .cons _ t, h, h' => zip_get (i := i) t h h'
theorem Paired.zlen {α β : Type} {F : α → β → Prop} : ∀ {l : List α} {m : List β}, Paired F l m → (l.zip m).length = l.length
  | _, _, .nil => rfl
  | _ :: _, _ :: _, .cons _ t => congrArg (· + 1) (Paired.zlen t)
theorem PkAt.same {C : Cs} {g : Gh} {H H' : Hp} {i j : Nat} {q : Addr} {k : Pk} (a : PkAt C g H i j q k) (s : Same H H') : PkAt C g H' i j q k := by
  obtain ⟨dx, f, a1, a2⟩ := a
  exact ⟨dx, f, a1.same s, a2.same s⟩
/-- no two packets' numbers: the list is as short as the channel's life -/
theorem inc_len : ∀ {l : List Pk} {lo hi : Nat}, (l.Pairwise fun x y => x.ser < y.ser) → (∀ k ∈ l, lo ≤ k.ser) → (∀ k ∈ l, k.ser < hi) → l.length ≤ hi - lo
  | [], _, _, _, _, _ => Nat.zero_le _
  | k :: l, lo, hi, h, h1, h2 => by
    obtain ⟨a, b⟩ := List.pairwise_cons.mp h
    have k1 := h1 k (List.mem_cons_self ..)
    have k2 := h2 k (List.mem_cons_self ..)
    have ih := inc_len (lo := k.ser + 1) (hi := hi) b (fun x hx => a x hx) fun x hx => h2 x (List.mem_cons_of_mem _ hx)
    rw [List.length_cons]
    omega
theorem ChOk.short {c : Ch} (o : ChOk c) : c.pk.length ≤ 20 := by
  have := inc_len (lo := c.sent - c.life) (hi := c.sent) o.inc (fun k hk => by have := o.young k hk; omega) o.lt
  have := o.life
  omega
theorem ChOk.send {c : Ch} (o : ChOk c) {fs : List Int} (h : 1 ≤ fs.length ∧ fs.length ≤ 100) : ChOk (c.send fs) where
  inc := by
    refine List.Pairwise.filter _ ?_
    rw [List.pairwise_append]
    refine ⟨o.inc, List.pairwise_singleton _ _, fun x hx y hy => ?_⟩
    rw [List.mem_singleton.mp hy]
    exact o.lt x hx
  lt := fun k hk => by
    rcases List.mem_append.mp (List.mem_filter.mp hk).1 with q | q
    · have := o.lt k q
      show k.ser < c.sent + 1
      omega
    · rw [List.mem_singleton.mp q]
      exact Nat.lt_succ_self _
  young := fun k hk => of_decide_eq_true (List.mem_filter.mp hk).2
  len := fun k hk => by
    rcases List.mem_append.mp (List.mem_filter.mp hk).1 with q | q
    · exact o.len k q
    · rw [List.mem_singleton.mp q]
      exact h
  life := o.life
section
variable {P : Program} {w : World} {K : PySem.W.Frag} {mg : Str → Option Value} {base : Heap} {C : Cs}
def spChInit (C : Cs) : Sp := fun vs H Q _ => ∃ (p dx : Addr) (life : Nat), vs = [.ref p, .int life] ∧ H p = some (.ins C.Channel dx []) ∧
  ∀ (H' : Hp) (l : Addr), H l = none → H' p = some (.ins C.Channel dx (F_Channel (.int life) (.int 0) (.ref l))) → H' l = some (.lst []) → (∀ b o, H b = some o → b ≠ p → H' b = some o) → Q .non H'
theorem k_Channel (T : Txt K mg C) : C8.Mak P w K mg base 1 "Channel" C.Channel (spChInit C) [] := by
  have cl := T.k_Channel.cl
  refine df_c T.k_Channel sc_Channel_init (fun vs H Q E h => ?_) (fun f cdv A outer s H vs Q E hr h => ?_)
  · obtain ⟨_, _, _, rfl, _⟩ := h
    rfl
  · obtain ⟨p, dx, life, rfl, hp, k⟩ := h
    refine ⟨_, pss_cons (ps_fld (pv 0) (pv 1) rfl) (pss_cons (ps_fld (pv 0) pe_int rfl) (pss_one (ps_fld (pv 0) (pe_lst pa_nil) rfl))), ?_⟩
    refine y_fld (x_v 1) (x_v 0) hp cl (no_Channel_lifetime T) (lt_nil (by decide)) ?_
    refine y_fld x_c (x_v 0) upd_same cl (no_Channel_sent_count T) (lt_put (n := 999) (lt_nil (by decide))) ?_
    refine ⟨Nat.zero_le _, fun l nl => ?_⟩
    have npl : p ≠ l := ne_of_none upd_same nl
    have nl0 : H l = none := by
      rw [upd_ne (Ne.symm npl), upd_ne (Ne.symm npl)] at nl
      exact nl
    refine ⟨_, rfl, p, C.Channel, dx, _, rfl, (upd_ne npl).trans upd_same, cl, no_Channel_packets T, lt_put (n := 999) (lt_put (n := 998) (lt_nil (by decide))), ?_⟩
    refine k _ l nl0 ?_ ?_ fun b o e hb => ?_
    · rw [upd_same, new_Channel]
    · rw [upd_ne (Ne.symm npl)]
      exact upd_same
    · rw [upd_ne hb, upd_ne (ne_of_none e nl0), upd_ne hb, upd_ne hb]
      exact e
def spChSend (C : Cs) : Sp := fun vs H Q _ => ∃ (g : Gh) (i j : Nat) (a fl : Addr) (c : Ch) (fs : List Int), vs = [.ref a, .ref fl] ∧ ChAt C g H i j a c ∧ ChOk c ∧ At g H (i, j, 2 * c.sent + 3) fl (.lst (fs.map V.int)) ∧ fs.length ≤ 100 ∧
  ∀ (g' : Gh) (H' : Hp), Mv (Part i j) g H g' H' → ChAt C g' H' i j a (c.send fs) → H' fl = some (.lst (fs.map V.int)) → Q .non H'
theorem m_Channel_send (T : Txt K mg C) : C8.Met P w K mg base 4 C.Channel "send" (spChSend C) [] := by
  have cP : C8.Mak P w K mg base 2 "Packet" C.Packet (spPkInit C) [] := k_Packet T
  have cl := T.k_Channel.cl
  have clP := T.k_Packet.cl
  refine df_m T.m_Channel_send sc_Channel_send (fun vs H Q E h => ?_) (fun f cdv A outer s H vs Q E hr h => ?_)
  · obtain ⟨_, _, _, _, _, _, _, rfl, _⟩ := h
    rfl
  · obtain ⟨g, i, j, a, fl, c, fs, rfl, ⟨dx, l, qs, aA, aL, aP⟩, ok, aF, hn, k⟩ := h
    refine ⟨_, pss_cons (ps_expr (pe_bm PySem.F.plainAttrs_list PySem.F.slot_list_append PySem.F.type_list_append mt_append (pe_fld (pv 0) rfl) (pa_cons (C8.pe_mk cP hr (by decide) (by rfl) (pa_cons (pv 1) (pa_cons (pe_fld (pv 0) rfl) pa_nil))) pa_nil)))
      (pss_cons (ps_fldaug (pv 0) pe_int in_add)
      (pss_cons (ps_set (i := 2) sc_Channel_send.nd rfl (.inr rfl) (pe_op op_sub (pe_fld (pv 0) rfl) (pe_fld (pv 0) rfl)))
      (pss_one (ps_fld (pv 0) (pe_lc (own := [("packet", 3)]) (g := gName 3) (tt := tTest (tOp (rI0 fun i j => .bl (decide (j ≤ i))) (tFld K (tVar 3) "sent_before") (tVar 2))) (te := tVar 3) rfl sc_Channel_send.nd (pi_list (pe_fld (pv 0) rfl)) (blkOk_by (own := [("packet", 3)]) (N := ["self", "fields", "oldest", "packet"]) (sc := defScope s_Channel_send) (by decide +kernel)) (fun _ _ _ _ _ => pg_name (i := 3) sc_Channel_send.nd rfl (.inl rfl)) (fun _ _ _ _ _ => pts_one (pt_cmpR op_ge (pe_fld (pv 3) rfl) (pv 2) (nomark _))) (fun _ _ _ _ _ => pv 3)) rfl)))), ?_⟩
    have hA : H a = _ := aA.2
    have hL : H l = _ := aL.2
    have hF : H fl = _ := aF.2
    have lq : qs.length = c.pk.length := Paired.length aP
    have short := ok.short
    -- self.packets.append(Packet(fields, self.sent_count))
    refine y_app (x_fld (x_v 0) hA cl (no_Channel_packets T) lk_Channel_packets) hL ?_
    refine x_make (x_cons (x_v 1) (x_cons (x_fld (x_v 0) hA cl (no_Channel_sent_count T) lk_Channel_sent_count) x_nil)) fun x dxp nx ndx nex => ?_
    refine ⟨x, dxp, fl, fs, c.sent, rfl, upd_same, (upd_ne (ne_of_none hF nx)).trans ((upd_ne (ne_of_none hF ndx)).trans hF), by omega, fun H2 hx2 kp => ⟨rfl, ?_⟩⟩
    have sm2 : Same H H2 := Same.made nx ndx kp
    have mv2 : Mv (Part i j) g H (tagAt g x (i, j, 2 * c.sent + 2)) H2 := Mv.sameTag sm2 nx _
    have hL2 := sm2 _ _ hL
    have hA2 := sm2 _ _ hA
    have nla : l ≠ a := ne_of hL hA (fun z => by cases z)
    refine ⟨l, qs.map V.ref, .ref x, rfl, rfl, hL2, ?_, ?_⟩
    · rw [List.length_map]
      exact Nat.lt_of_le_of_lt (by omega : qs.length ≤ 1000) (by decide)
    -- self.sent_count += 1
    have hA3 : (upd H2 l (.lst (qs.map V.ref ++ [.ref x]))) a = some (.ins C.Channel dx (F_Channel (.int c.life) (.int c.sent) (.ref l))) := (upd_ne (Ne.symm nla)).trans hA2
    refine y_aug (x_v 0) hA3 cl (no_Channel_sent_count T) lk_Channel_sent_count x_c len_Channel ?_
    rw [put_Channel_sent_count]
    -- oldest
    refine y_asg (x_i0 (x_fld (x_v 0) upd_same cl (no_Channel_sent_count T) lk_Channel_sent_count) (x_fld (x_v 0) upd_same cl (no_Channel_lifetime T) lk_Channel_lifetime)) ?_
    generalize hH4 : (upd (upd H2 l (.lst (qs.map V.ref ++ [.ref x]))) a (.ins C.Channel dx (F_Channel (.int c.life) (.int (c.sent + 1)) (.ref l)))) = H4
    have hA4 : H4 a = some (.ins C.Channel dx (F_Channel (.int c.life) (.int (c.sent + 1)) (.ref l))) := by
      rw [← hH4]
      exact upd_same
    have hL4 : H4 l = some (.lst ((qs ++ [x]).map V.ref)) := by
      rw [← hH4, upd_ne nla, upd_same, List.map_append]
      rfl
    have mv4 : Mv (Part i j) g H (tagAt g x (i, j, 2 * c.sent + 2)) H4 := by
      rw [← hH4]
      refine mv2.trans ((Mv.set hL2 ?_).trans (Mv.set hA3 ?_))
      · rw [mv2.tag _ _ hL, aL.1]
        exact ⟨rfl, rfl⟩
      · rw [mv2.tag _ _ hA, aA.1]
        exact ⟨rfl, rfl⟩
    have old4 : ∀ (r : Role) (p : Addr) (o : HO), At g H r p o → r ≠ (i, j, 0) → r ≠ (i, j, 1) → At (tagAt g x (i, j, 2 * c.sent + 2)) H4 r p o := fun r p o h h0 h1 => by
      have ea : p ≠ a := fun z => h0 (by rw [← h.1, z]; exact aA.1)
      have el : p ≠ l := fun z => h1 (by rw [← h.1, z]; exact aL.1)
      refine ⟨(mv2.tag _ _ h.2).trans h.1, ?_⟩
      rw [← hH4, upd_ne ea, upd_ne el]
      exact sm2 _ _ h.2
    have xa : x ≠ a := fun z => by rw [z, hA] at nx; cases nx
    have xl : x ≠ l := fun z => by rw [z, hL] at nx; cases nx
    have hx4 : H4 x = some (.ins C.Packet dxp (F_Packet (.ref fl) (.int (Vbtwad.checksumOf fs)) (.int c.sent))) := by
      rw [← hH4, upd_ne xa, upd_ne xl]
      exact hx2
    have aP4 : Paired (PkAt C (tagAt g x (i, j, 2 * c.sent + 2)) H4 i j) qs c.pk := Paired.mapP aP fun q k p => by
      obtain ⟨d, f2, p1, p2⟩ := p
      exact ⟨d, f2, old4 _ _ _ p1 (role_ne (by omega)) (role_ne (by omega)), old4 _ _ _ p2 (role_ne (by omega)) (role_ne (by omega))⟩
    have pk4 : Paired (PkAt C (tagAt g x (i, j, 2 * c.sent + 2)) H4 i j) (qs ++ [x]) (c.pk ++ [mkPk fs c.sent]) :=
      Paired.snoc ⟨dxp, fl, ⟨tag_same, hx4⟩, old4 _ _ _ aF (role_ne (by omega)) (role_ne (by omega))⟩ aP4
    have keep_eq : ∀ kk : Pk, decide ((c.sent : Int) + 1 - (c.life : Int) ≤ (kk.ser : Int)) = decide (c.sent + 1 ≤ kk.ser + c.life) := fun kk => by
      by_cases z : c.sent + 1 ≤ kk.ser + c.life
      · rw [decide_eq_true z, decide_eq_true (by omega)]
      · rw [decide_eq_false z, decide_eq_false (by omega)]
    have zl := Paired.zlen pk4
    -- the comprehension
    refine ⟨_, rfl, a, C.Channel, dx, _, _, rfl, hA4, cl, no_Channel_packets T, lk_Channel_packets, l, rfl, ⟨_, SqL.of hL4⟩, fun Dn nD => ?_⟩
    have hAn : a ≠ Dn := ne_of_none hA4 nD
    refine lc_list (K := K) (a := l) (xs := (qs ++ [x]).map V.ref) (fun n H' => Same H4 H' ∧ H' Dn = some (.lst ((sift (fun kk : Pk => decide (c.sent + 1 ≤ kk.ser + c.life)) (((qs ++ [x]).zip (c.pk ++ [mkPk fs c.sent])).take n)).map V.ref))) ⟨same_new nD, upd_same⟩ (fun n H' _ h => .of (h.1 _ _ hL4)) ?_ ?_
    · rintro n y H' hy ⟨sm, hD⟩
      obtain ⟨q, hq, rfl⟩ := map_get hy
      obtain ⟨kk, hkk, pa⟩ := Paired.get pk4 hq
      obtain ⟨d, f2, p1, p2⟩ := pa.same sm
      have hz := zip_get pk4 hq hkk
      have ln : n < (qs ++ [x]).length := (List.getElem?_eq_some_iff.mp hq).1
      refine ⟨rfl, ?_⟩
      refine x_test (x_i0 (x_fld (x_v 3) p1.2 clP (no_Packet_sent_before T) lk_Packet_sent_before) (x_v 2)) _ ?_
      rw [keep_eq]
      refine if_c (fun e => ?_) (fun e => ?_)
      · refine x_v 3 rfl _ ⟨_, hD, ?_, ?_⟩
        · rw [List.length_map]
          refine Nat.lt_of_le_of_lt (Nat.le_trans (sift_len _ _) ?_) (show 1000 < sizeLine by decide)
          rw [List.length_take, zl, List.length_append]
          have : [x].length = 1 := rfl
          omega
        · refine ⟨same_upd sm nD, ?_⟩
          rw [upd_same, zip_snoc hz, sift_snoc, if_pos e, List.map_append]
          rfl
      · refine ⟨sm, ?_⟩
        rw [hD, zip_snoc hz, sift_snoc, if_neg (by rw [e]; exact Bool.false_ne_true), List.append_nil]
    · rintro H5 ⟨sm, hD⟩
      rw [List.length_map, ← zl, List.take_length] at hD
      have hA5 := sm _ _ hA4
      refine x_v 0 rfl _ ⟨a, C.Channel, dx, _, rfl, hA5, cl, no_Channel_packets T, len_Channel, ?_⟩
      rw [put_Channel_packets]
      have nH : H Dn = none := mv4.free nD
      have mv5 : Mv (Part i j) g H (tagAt (tagAt g x (i, j, 2 * c.sent + 2)) Dn (i, j, 1)) (upd H5 a (.ins C.Channel dx (F_Channel (.int c.life) (.int (c.sent + 1)) (.ref Dn)))) := by
        refine (mv4.trans (Mv.sameTag sm nD (i, j, 1))).trans (Mv.set hA5 ?_)
        rw [tag_ne hAn, mv4.tag _ _ hA, aA.1]
        exact ⟨rfl, rfl⟩
      refine k _ _ mv5 ⟨dx, Dn, _, ⟨?_, upd_same⟩, ⟨tag_same, ?_⟩, sift_ok (fun kk : Pk => decide (c.sent + 1 ≤ kk.ser + c.life)) (Paired.mapP pk4 fun q kk p => ?_)⟩ ((upd_ne (ne_of hF hA (fun z => by cases z))).trans (sm _ _ (old4 _ _ _ aF (role_ne (by omega)) (role_ne (by omega))).2))
      · rw [tag_ne hAn, mv4.tag _ _ hA, aA.1]
      · rw [upd_ne (Ne.symm hAn)]
        exact hD
      · obtain ⟨d, f2, p1, p2⟩ := p
        have n1 : q ≠ a := fun z => by
          have e := p1.1
          rw [z, mv4.tag _ _ hA, aA.1] at e
          have e2 : 0 = 2 * kk.ser + 2 := congrArg (fun r : Role => r.2.2) e
          omega
        have n2 : f2 ≠ a := ne_of p2.2 hA4 (fun z => by cases z)
        exact ⟨d, f2, ⟨(tag_ne (ne_of_none p1.2 nD)).trans p1.1, (upd_ne n1).trans (sm _ _ p1.2)⟩, ⟨(tag_ne (ne_of_none p2.2 nD)).trans p2.1, (upd_ne n2).trans (sm _ _ p2.2)⟩⟩
end
end W170

namespace W170
open PySem PySem.Spec PyProof.Rows L2
/-! ### what a channel's methods do -/
def Ch.erase (c : Ch) (n : Nat) : Ch := { c with pk := c.pk.eraseIdx n }
def inB (k : Int) (n : Nat) : Bool := decide (0 ≤ k) && decide (k < (n : Int))
def refuse (c : Ch) (k st : Int) : List Int := if st < 0 ∨ 1 < st then [-1] else if inB k c.pk.length = true then [] else [-5]
def Ch.loseOp (c : Ch) (k : Int) : Ch × List Int := if inB k c.pk.length = true then (c.erase k.toNat, [0]) else (c, [-5])
def Pk.cor (p : Pk) (i : Nat) (z : Int) : Pk := if i = p.fs.length then { p with ck := z } else { p with fs := p.fs.set i z }
def canCor (p : Pk) (i z : Int) : Bool := (decide (0 ≤ i) && decide (i ≤ (p.fs.length : Int))) && (decide (-9999 ≤ z) && decide (z ≤ 99999))
def Ch.corOp (c : Ch) (k i z : Int) : Ch × List Int := if inB k c.pk.length = true then (match c.pk[k.toNat]? with
    | none => (c, [-5])
    | some p => if canCor p i z = true then ({ c with pk := c.pk.set k.toNat (p.cor i.toNat z) }, [0]) else (c, [-1])) else (c, [-5])
def pkRow (k : Pk) : List Int := ((k.fs.length + 1 : Nat) : Int) :: (k.fs ++ [k.ck])
def pkList (c : Ch) : List Int := (c.pk.length : Int) :: c.pk.flatMap pkRow
def Ch.pop (c : Ch) : Ch := { c with pk := c.pk.dropLast }
theorem ChOk.pop {c : Ch} (o : ChOk c) : ChOk c.pop where
  inc := o.inc.sublist (List.dropLast_sublist _)
  lt := fun k h => o.lt k ((List.dropLast_sublist _).subset h)
  young := fun k h => o.young k ((List.dropLast_sublist _).subset h)
  len := fun k h => o.len k ((List.dropLast_sublist _).subset h)
  life := o.life
theorem Paired.dropLast {α β : Type} {F : α → β → Prop} : ∀ {l : List α} {m : List β}, Paired F l m → Paired F l.dropLast m.dropLast
  | _, _, .nil => .nil
  | [_], [_], .cons _ .nil => .nil
  | _ :: _ :: _, _ :: _ :: _, .cons r (.cons r2 t) => .cons r (Paired.dropLast (.cons r2 t))
theorem erase_map {α β : Type} (f : α → β) : ∀ (l : List α) (n : Nat), (l.map f).eraseIdx n = (l.eraseIdx n).map f
  | [], _ => rfl
  | _ :: _, 0 => rfl
  | x :: l, n + 1 => congrArg (f x :: ·) (erase_map f l n)
theorem Paired.erase {α β : Type} {F : α → β → Prop} : ∀ {l : List α} {m : List β} (n : Nat), Paired F l m → Paired F (l.eraseIdx n) (m.eraseIdx n)
  | _, _, _, .nil => .nil
  | _ :: _, _ :: _, 0, .cons _ t => t
  | _ :: _, _ :: _, n + 1, .cons r t => .cons r (Paired.erase n t)
theorem ChOk.erase {c : Ch} (o : ChOk c) (n : Nat) : ChOk (c.erase n) where
  inc := o.inc.sublist (List.eraseIdx_sublist _ _)
  lt := fun k h => o.lt k (List.mem_of_mem_eraseIdx h)
  young := fun k h => o.young k (List.mem_of_mem_eraseIdx h)
  len := fun k h => o.len k (List.mem_of_mem_eraseIdx h)
  life := o.life
section
variable {P : Program} {w : World} {K : PySem.W.Frag} {mg : Str → Option Value} {base : Heap} {C : Cs}
def spHolds (C : Cs) : Sp := fun vs H Q _ => ∃ (g : Gh) (i j : Nat) (a : Addr) (c : Ch) (k : Int), vs = [.ref a, .int k] ∧ ChAt C g H i j a c ∧ Q (.bl (inB k c.pk.length)) H
theorem m_holds (T : Txt K mg C) : C8.Met P w K mg base 1 C.Channel "holds" (spHolds C) [] := by
  have cl := T.k_Channel.cl
  refine df_m T.m_Channel_holds sc_Channel_holds (fun vs H Q E h => ?_) (fun f cdv A outer s H vs Q E hr h => ?_)
  · obtain ⟨_, _, _, _, _, _, rfl, _⟩ := h
    rfl
  · obtain ⟨g, i, j, a, c, k, rfl, ⟨dx, l, qs, aA, aL, aP⟩, q⟩ := h
    refine ⟨_, pss_one (ps_ret (pe_chain op_le op_lt pe_int (pv 1) (pe_ln T.b_len (pe_fld (pv 0) rfl)))), ?_⟩
    refine y_ret (x_chain x_c (x_v 1) r_le (x_len (x_fld (x_v 0) aA.2 cl (no_Channel_packets T) lk_Channel_packets) (.of aL.2)) r_lt) ?_
    rw [List.length_map, Paired.length aP]
    exact q
def spPkGet (C : Cs) : Sp := fun vs H Q _ => ∃ (a dx l q : Addr) (qs : List Addr) (v1 v2 : V) (n : Nat), vs = [.ref a, .int n] ∧ H a = some (.ins C.Channel dx (F_Channel v1 v2 (.ref l))) ∧ H l = some (.lst (qs.map V.ref)) ∧ qs[n]? = some q ∧ Q (.ref q) H
theorem m_packet_at (T : Txt K mg C) : C8.Met P w K mg base 1 C.Channel "packet_at" (spPkGet C) [] := by
  have cl := T.k_Channel.cl
  refine df_m T.m_Channel_packet_at sc_Channel_packet_at (fun vs H Q E h => ?_) (fun f cdv A outer s H vs Q E hr h => ?_)
  · obtain ⟨_, _, _, _, _, _, _, _, rfl, _⟩ := h
    rfl
  · obtain ⟨a, dx, l, q, qs, v1, v2, n, rfl, hA, hL, hq, k⟩ := h
    refine ⟨_, pss_one (ps_ret (pe_ix ix_list (pe_fld (pv 0) rfl) (pv 1) (fun _ _ => rfl))), ?_⟩
    exact y_ret (x_ix (x_fld (x_v 0) hA cl (no_Channel_packets T) lk_Channel_packets) (x_v 1) (.of hL) (get_map hq)) k
def spLose (C : Cs) : Sp := fun vs H Q _ => ∃ (g : Gh) (i j : Nat) (a : Addr) (c : Ch) (n : Nat), vs = [.ref a, .int n] ∧ ChAt C g H i j a c ∧ n < c.pk.length ∧ n < 1000 ∧ ∀ H', Mv (fun r => r = (i, j, 1)) g H g H' → ChAt C g H' i j a (c.erase n) → Q .non H'
theorem m_lose (T : Txt K mg C) : C8.Met P w K mg base 1 C.Channel "lose" (spLose C) [] := by
  have cl := T.k_Channel.cl
  refine df_m T.m_Channel_lose sc_Channel_lose (fun vs H Q E h => ?_) (fun f cdv A outer s H vs Q E hr h => ?_)
  · obtain ⟨_, _, _, _, _, _, rfl, _⟩ := h
    rfl
  · obtain ⟨g, i, j, a, c, n, rfl, ⟨dx, l, qs, aA, aL, aP⟩, hn, hn2, q⟩ := h
    refine ⟨_, pss_one (ps_expr (pe_bm PySem.F.plainAttrs_list PySem.F.slot_list_pop PySem.F.type_list_pop mt_popAt (pe_fld (pv 0) rfl) (pa_cons (pv 1) pa_nil))), ?_⟩
    have hq : n < (qs.map V.ref).length := by rw [List.length_map, Paired.length aP]; exact hn
    refine ⟨_, rfl, a, C.Channel, dx, _, _, rfl, aA.2, cl, no_Channel_packets T, lk_Channel_packets, .inl ⟨rfl, _, SqL.of aL.2⟩, _, rfl, l, _, _, n, _, rfl, rfl, aL.2, by omega, by omega, seq_nat hq, List.getElem?_eq_getElem hq, ?_⟩
    have mv : Mv (fun r => r = (i, j, 1)) g H g (upd H l (.lst ((qs.map V.ref).eraseIdx n))) := Mv.set aL.2 aL.1
    refine q _ mv ⟨dx, l, qs.eraseIdx n, aA.mv mv (role_ne (by omega)), ⟨aL.1, ?_⟩, Paired.erase n (Paired.mapP aP fun q k p => p.mv mv (role_ne (by omega)) (role_ne (by omega)))⟩
    rw [upd_same, erase_map]
def spTakeNew (C : Cs) : Sp := fun vs H Q _ => ∃ (g : Gh) (i j : Nat) (a : Addr) (c : Ch) (k : Pk), vs = [.ref a] ∧ ChAt C g H i j a c ∧ c.pk.getLast? = some k ∧ ∀ H' q, Mv (fun r => r = (i, j, 1)) g H g H' → ChAt C g H' i j a c.pop → PkAt C g H' i j q k → Q (.ref q) H'
theorem m_take_newest (T : Txt K mg C) : C8.Met P w K mg base 1 C.Channel "take_newest" (spTakeNew C) [] := by
  have cl := T.k_Channel.cl
  refine df_m T.m_Channel_take_newest sc_Channel_take_newest (fun vs H Q E h => ?_) (fun f cdv A outer s H vs Q E hr h => ?_)
  · obtain ⟨_, _, _, _, _, _, rfl, _⟩ := h
    rfl
  · obtain ⟨g, i, j, a, c, k, rfl, ⟨dx, l, qs, aA, aL, aP⟩, hk, kk⟩ := h
    refine ⟨_, pss_one (ps_ret (pe_bm0 PySem.F.plainAttrs_list PySem.F.slot_list_pop PySem.F.type_list_pop mt_pop (pe_fld (pv 0) rfl))), ?_⟩
    have hk' : c.pk[c.pk.length - 1]? = some k := by
      rw [← List.getLast?_eq_getElem?]
      exact hk
    obtain ⟨q, hq, pa⟩ := Paired.at aP hk'
    have lq : qs.length = c.pk.length := Paired.length aP
    refine ⟨_, rfl, a, C.Channel, dx, _, _, rfl, aA.2, cl, no_Channel_packets T, lk_Channel_packets, .inl ⟨rfl, _, SqL.of aL.2⟩, l, _, .ref q, rfl, rfl, aL.2, ?_, ?_⟩
    · rw [List.length_map, lq]
      exact get_map hq
    have mv : Mv (fun r => r = (i, j, 1)) g H g (upd H l (.lst (qs.map V.ref).dropLast)) := Mv.set aL.2 aL.1
    refine kk _ q mv ⟨dx, l, qs.dropLast, aA.mv mv (role_ne (by omega)), ⟨aL.1, ?_⟩, Paired.dropLast (Paired.mapP aP fun q k p => p.mv mv (role_ne (by omega)) (role_ne (by omega)))⟩ (pa.mv mv (role_ne (by omega)) (role_ne (by omega)))
    rw [upd_same, List.map_dropLast]
/-! the defs over a channel -/
def spRefused (K : PySem.W.Frag) (C : Cs) : Sp := fun vs H Q _ => ∃ (g : Gh) (i j : Nat) (a b : Addr) (c : Ch) (k st : Int), vs = [.ref a, .ref b] ∧ ChAt C g H i j a c ∧ SqL K H b ([k, st].map V.int) ∧ ∀ H' p, Same H H' → H p = none → H' p = some (.lst ((refuse c k st).map V.int)) → Q (.ref p) H'
theorem c_refused (T : Txt K mg C) : C8.Cal P w K mg base 2 "refused_delivery" (spRefused K C) [] := by
  have cH : C8.Met P w K mg base 1 C.Channel "holds" (spHolds C) [] := m_holds T
  refine df_g T.g_refused_delivery sc_refused_delivery (fun vs H Q E h => ?_) (fun f cdv A outer s H vs Q E hr h => ?_)
  · obtain ⟨_, _, _, _, _, _, _, _, rfl, _⟩ := h
    rfl
  · obtain ⟨g, i, j, a, b, c, k, st, rfl, hc, hb, q⟩ := h
    refine ⟨_, pss_cons (ps_if (PW.pt (pw_or (pt_cmpR op_lt (pe_ix ix_list (pv 1) pe_int (fun _ _ => rfl)) pe_int (nomark _)) (pw_or1 (pt_cmpR op_gt (pe_ix ix_list (pv 1) pe_int (fun _ _ => rfl)) pe_int (nomark _))))) (pss_one (ps_ret (pe_lst (pa_cons (pe_gi T.n_OUT_OF_RANGE) pa_nil)))) pss_nil)
      (pss_cons (ps_if (pt_not (pt_val (C8.pe_mt cH hr (by decide) (pv 0) (pa_cons (pe_ix ix_list (pv 1) pe_int (fun _ _ => rfl)) pa_nil)))) (pss_one (ps_ret (pe_lst (pa_cons (pe_gi T.n_NO_PACKET) pa_nil)))) pss_nil)
      (pss_one (ps_ret (pe_lst pa_nil)))), ?_⟩
    refine y_if (x_or (x_test (x_i0 (x_ix (n := 1) (x_v 1) x_c hb rfl) x_c)) fun _ => x_test (x_i0 (x_ix (n := 1) (x_v 1) x_c hb rfl) x_c)) (fun e => ?_) (fun e => ?_)
    · have hc' : st < 0 ∨ 1 < st := by simpa using e
      refine y_retl (x_cons x_c x_nil) (by show 1 ≤ 1000; decide) fun p np => q _ p (same_new np) np ?_
      rw [upd_same]
      unfold refuse
      rw [if_pos hc']
      rfl
    · have hc' : ¬ (st < 0 ∨ 1 < st) := by
        intro z
        simp only [Bool.or_eq_false_iff, decide_eq_false_iff_not] at e
        exact z.elim e.1 e.2
      dsimp only [tNext]
      obtain ⟨dx, l, qs, aA, aL, aP⟩ := hc
      have ev : EtX (tNot (tB (tMeth C.Channel "holds" (spHolds C) [] C8.E0 (tVar 0) (tCons (tOp (rIxL K) (tVar 1) (tC (V.int 0))) tNil)))) (L2.start ["channel", "arguments"] [V.ref a, V.ref b]) H (!(inB k c.pk.length)) :=
        x_not (x_B fun Q' q' => x_meth (x_v 0) aA.2 nm_Channel_holds (x_cons (x_ix (n := 0) (x_v 1) x_c hb rfl) x_nil) ⟨g, i, j, a, c, k, rfl, ⟨dx, l, qs, aA, aL, aP⟩, q'⟩)
      refine y_if ev (fun e2 => ?_) (fun e2 => ?_)
      · refine y_retl (x_cons x_c x_nil) (by show 1 ≤ 1000; decide) fun p np => q _ p (same_new np) np ?_
        rw [upd_same]
        unfold refuse
        rw [if_neg hc', if_neg (by rw [Bool.not_eq_true']  at e2; rw [e2]; exact Bool.false_ne_true)]
        rfl
      · dsimp only [tNext]
        refine y_retl x_nil (by show 0 ≤ 1000; decide) fun p np => q _ p (same_new np) np ?_
        rw [upd_same]
        unfold refuse
        rw [if_neg hc', if_pos (by rw [Bool.not_eq_false'] at e2; exact e2)]
        rfl
end
end W170

namespace W170
open PySem PySem.Spec PyProof.Rows L2
theorem paired_set {α β : Type} {F G : α → β → Prop} {x : α} {y : β} : ∀ {l : List α} {m : List β} {n : Nat}, Paired F l m → l[n]? = some x → G x y → (∀ k a b, k ≠ n → l[k]? = some a → m[k]? = some b → F a b → G a b) → Paired G l (m.set n y)
  | _, _, _, .nil, h, _, _ => by simp at h
  | _ :: _, _ :: _, 0, .cons r t, h, hy, ho => by
    have e := Option.some.inj h
    subst e
    exact .cons hy (paired_all t fun k a b h1 h2 f => ho (k + 1) a b (by omega) h1 h2 f)
  | _ :: _, _ :: _, n + 1, .cons r t, h, hy, ho => .cons (ho 0 _ _ (by omega) rfl rfl r) (paired_set (n := n) t h hy fun k a b hk h1 h2 f => ho (k + 1) a b (by omega) h1 h2 f)
where
  paired_all {α β : Type} {F G : α → β → Prop} : ∀ {l : List α} {m : List β}, Paired F l m → (∀ k a b, l[k]? = some a → m[k]? = some b → F a b → G a b) → Paired G l m
    | _, _, .nil, _ => .nil
    | _ :: _, _ :: _, .cons r t, h => .cons (h 0 _ _ rfl rfl r) (paired_all t fun k a b h1 h2 f => h (k + 1) a b h1 h2 f)
theorem paired_all2 {α β : Type} {F G : α → β → Prop} {l : List α} {m : List β} (h : Paired F l m) (k : ∀ (n : Nat) a b, l[n]? = some a → m[n]? = some b → F a b → G a b) : Paired G l m := paired_set.paired_all h k
theorem ChOk.apart {c : Ch} (o : ChOk c) {n m : Nat} {k k' : Pk} (h : c.pk[n]? = some k) (h' : c.pk[m]? = some k') (d : m ≠ n) : k'.ser ≠ k.ser := by
  obtain ⟨a, e⟩ := List.getElem?_eq_some_iff.mp h
  obtain ⟨b, e'⟩ := List.getElem?_eq_some_iff.mp h'
  have P := List.pairwise_iff_getElem.mp o.inc
  rcases Nat.lt_or_gt_of_ne d with q | q
  · have := P m n b a q
    rw [e, e'] at this
    omega
  · have := P n m a b q
    rw [e, e'] at this
    omega
theorem cor_ser (p : Pk) (i : Nat) (z : Int) : (p.cor i z).ser = p.ser := by
  unfold Pk.cor
  split <;> rfl
theorem cor_len (p : Pk) (i : Nat) (z : Int) : (p.cor i z).fs.length = p.fs.length := by
  unfold Pk.cor
  split
  · rfl
  · exact List.length_set
theorem pw_set {R : Pk → Pk → Prop} : ∀ {l : List Pk} {n : Nat} {k y : Pk}, l[n]? = some k → (∀ x, R x k → R x y) → (∀ x, R k x → R y x) → l.Pairwise R → (l.set n y).Pairwise R
  | [], _, _, _, h, _, _, _ => by simp at h
  | a :: l, 0, k, y, h, h1, h2, p => by
    have e := Option.some.inj h
    subst e
    obtain ⟨p1, p2⟩ := List.pairwise_cons.mp p
    exact List.pairwise_cons.mpr ⟨fun x hx => h2 x (p1 x hx), p2⟩
  | a :: l, n + 1, k, y, h, h1, h2, p => by
    obtain ⟨p1, p2⟩ := List.pairwise_cons.mp p
    refine List.pairwise_cons.mpr ⟨fun x hx => ?_, pw_set (l := l) (n := n) h h1 h2 p2⟩
    rcases List.mem_or_eq_of_mem_set hx with q | q
    · exact p1 x q
    · rw [q]
      exact h1 a (p1 k (List.mem_of_getElem? h))
theorem ChOk.set {c : Ch} (o : ChOk c) {n : Nat} {k : Pk} (h : c.pk[n]? = some k) (i : Nat) (z : Int) : ChOk { c with pk := c.pk.set n (k.cor i z) } := by
  have hk := List.mem_of_getElem? h
  have all : ∀ {p : Pk → Prop}, (∀ x ∈ c.pk, p x) → p (k.cor i z) → ∀ x ∈ c.pk.set n (k.cor i z), p x := fun {p} h1 h2 x hx => by
    rcases List.mem_or_eq_of_mem_set hx with q | q
    · exact h1 x q
    · rw [q]
      exact h2
  refine ⟨pw_set h (fun x hx => by rw [cor_ser]; exact hx) (fun x hx => by rw [cor_ser]; exact hx) o.inc, all o.lt ?_, all o.young ?_, all o.len ?_, o.life⟩
  · rw [cor_ser]
    exact o.lt k hk
  · rw [cor_ser]
    exact o.young k hk
  · rw [cor_len]
    exact o.len k hk
section
variable {P : Program} {w : World} {K : PySem.W.Frag} {mg : Str → Option Value} {base : Heap} {C : Cs}
def spTaken (K : PySem.W.Frag) (C : Cs) : Sp := fun vs H Q _ => ∃ (g : Gh) (i j : Nat) (a b : Addr) (c : Ch) (n : Nat) (st : Int) (k : Pk), vs = [.ref a, .ref b] ∧ ChAt C g H i j a c ∧ ChOk c ∧ SqL K H b ([(n : Int), st].map V.int) ∧ ¬ g b = (i, j, 1) ∧ c.pk[n]? = some k ∧
  ∀ H' q, Mv (fun r => r = (i, j, 1)) g H g H' → ChAt C g H' i j a (if st = 0 then c.erase n else c) → PkAt C g H' i j q k → Q (.ref q) H'
theorem c_taken (T : Txt K mg C) : C8.Cal P w K mg base 2 "taken_packet" (spTaken K C) [] := by
  have cG : C8.Met P w K mg base 1 C.Channel "packet_at" (spPkGet C) [] := m_packet_at T
  have cL : C8.Met P w K mg base 1 C.Channel "lose" (spLose C) [] := m_lose T
  refine df_g T.g_taken_packet sc_taken_packet (fun vs H Q E h => ?_) (fun f cdv A outer s H vs Q E hr h => ?_)
  · obtain ⟨_, _, _, _, _, _, _, _, _, rfl, _⟩ := h
    rfl
  · obtain ⟨g, i, j, a, b, c, n, st, k, rfl, hc, ok, hb, gb, hk, q⟩ := h
    refine ⟨_, pss_cons (ps_set (i := 2) sc_taken_packet.nd rfl (.inl rfl) (C8.pe_mt cG hr (by decide) (pv 0) (pa_cons (pe_ix ix_list (pv 1) pe_int (fun _ _ => rfl)) pa_nil)))
      (pss_cons (ps_if (pt_cmpR op_eq (pe_ix ix_list (pv 1) pe_int (fun _ _ => rfl)) pe_int (nomark _)) (pss_one (ps_expr (C8.pe_mt cL hr (by decide) (pv 0) (pa_cons (pe_ix ix_list (pv 1) pe_int (fun _ _ => rfl)) pa_nil)))) pss_nil)
      (pss_one (ps_ret (pv 2)))), ?_⟩
    have hc0 := hc
    obtain ⟨dx, l, qs, aA, aL, aP⟩ := hc0
    have lt : n < c.pk.length := (List.getElem?_eq_some_iff.mp hk).1
    have sh := ok.short
    obtain ⟨q0, hq0, pa⟩ := Paired.at aP hk
    refine x_meth (x_v 0) aA.2 nm_Channel_packet_at (x_cons (x_ix (n := 0) (x_v 1) x_c hb rfl) x_nil) ⟨a, dx, l, q0, qs, _, _, n, rfl, aA.2, aL.2, hq0, ?_⟩
    refine y_if (x_test (x_eqI (x_ix (n := 1) (x_v 1) x_c hb rfl) x_c)) (fun e => ?_) (fun e => ?_)
    · have e' := of_decide_eq_true e
      refine y_drop (x_meth (x_v 0) aA.2 nm_Channel_lose (x_cons (x_ix (n := 0) (x_v 1) x_c hb rfl) x_nil) ⟨g, i, j, a, c, n, rfl, hc, lt, by omega, fun H' mv hc' => ?_⟩)
      dsimp only
      refine y_ret (x_v 2) (q H' q0 mv ?_ (pa.mv mv (role_ne (by omega)) (role_ne (by omega))))
      rw [if_pos e']
      exact hc'
    · have e' := of_decide_eq_false e
      dsimp only [tNext]
      refine y_ret (x_v 2) (q H q0 Mv.refl ?_ pa)
      rw [if_neg e']
      exact hc
def spLosePk (K : PySem.W.Frag) (C : Cs) : Sp := fun vs H Q _ => ∃ (g : Gh) (i j : Nat) (a b : Addr) (c : Ch) (k : Int), vs = [.ref a, .ref b] ∧ ChAt C g H i j a c ∧ ChOk c ∧ SqL K H b ([k].map V.int) ∧ ¬ Part i j (g b) ∧
  ∀ H' p, Mv (Part i j) g H g H' → H p = none → ChAt C g H' i j a (c.loseOp k).1 → H' p = some (.lst ((c.loseOp k).2.map V.int)) → Q (.ref p) H'
theorem c_lose (T : Txt K mg C) : C8.Cal P w K mg base 2 "lose_packet" (spLosePk K C) [] := by
  have cH : C8.Met P w K mg base 1 C.Channel "holds" (spHolds C) [] := m_holds T
  have cL : C8.Met P w K mg base 1 C.Channel "lose" (spLose C) [] := m_lose T
  refine df_g T.g_lose_packet sc_lose_packet (fun vs H Q E h => ?_) (fun f cdv A outer s H vs Q E hr h => ?_)
  · obtain ⟨_, _, _, _, _, _, _, rfl, _⟩ := h
    rfl
  · obtain ⟨g, i, j, a, b, c, k, rfl, hc, ok, hb, gb, q⟩ := h
    refine ⟨_, pss_cons (ps_if (pt_not (pt_val (C8.pe_mt cH hr (by decide) (pv 0) (pa_cons (pe_ix ix_list (pv 1) pe_int (fun _ _ => rfl)) pa_nil)))) (pss_one (ps_ret (pe_lst (pa_cons (pe_gi T.n_NO_PACKET) pa_nil)))) pss_nil)
      (pss_cons (ps_expr (C8.pe_mt cL hr (by decide) (pv 0) (pa_cons (pe_ix ix_list (pv 1) pe_int (fun _ _ => rfl)) pa_nil)))
      (pss_one (ps_ret (pe_lst (pa_cons pe_int pa_nil))))), ?_⟩
    have hc0 := hc
    obtain ⟨dx, l, qs, aA, aL, aP⟩ := hc0
    have ev : EtX (tNot (tB (tMeth C.Channel "holds" (spHolds C) [] C8.E0 (tVar 0) (tCons (tOp (rIxL K) (tVar 1) (tC (V.int 0))) tNil)))) (L2.start ["channel", "arguments"] [V.ref a, V.ref b]) H (!(inB k c.pk.length)) :=
      x_not (x_B fun Q' q' => x_meth (x_v 0) aA.2 nm_Channel_holds (x_cons (x_ix (n := 0) (x_v 1) x_c hb rfl) x_nil) ⟨g, i, j, a, c, k, rfl, hc, q'⟩)
    refine y_if ev (fun e2 => ?_) (fun e2 => ?_)
    · have e3 : inB k c.pk.length = false := by rw [Bool.not_eq_true'] at e2; exact e2
      have el : c.loseOp k = (c, [-5]) := if_neg (by rw [e3]; exact Bool.false_ne_true)
      refine y_retl (x_cons x_c x_nil) (by show 1 ≤ 1000; decide) fun p np => q _ p (Mv.new' np) np ?_ ?_
      · rw [el]
        exact hc.mv (S := fun _ => False) (Mv.new' np) fun _ z => z
      · rw [el, upd_same]
        rfl
    · have e3 : inB k c.pk.length = true := by rw [Bool.not_eq_false'] at e2; exact e2
      have el : c.loseOp k = (c.erase k.toNat, [0]) := if_pos e3
      have e4 := Bool.and_eq_true_iff.mp e3
      have h0 := of_decide_eq_true e4.1
      have h1 := of_decide_eq_true e4.2
      have sh := ok.short
      have ek : k = ((k.toNat : Nat) : Int) := by omega
      dsimp only [tNext]
      refine y_drop (x_meth (x_v 0) aA.2 nm_Channel_lose (x_cons (x_ix (n := 0) (x_v 1) x_c hb rfl) x_nil) ⟨g, i, j, a, c, k.toNat, by rw [← ek]; rfl, hc, by omega, by omega, fun H' mv hc' => ?_⟩)
      dsimp only
      refine y_retl (x_cons x_c x_nil) (by show 1 ≤ 1000; decide) fun p np => q _ p ((mv.mono fun r z => by rw [z]; exact ⟨rfl, rfl⟩).trans (Mv.new' np)) (mv.free np) ?_ ?_
      · rw [el]
        exact hc'.mv (S := fun _ => False) (Mv.new' np) fun _ z => z
      · rw [el, upd_same]
        rfl
end
end W170

namespace W170
open PySem PySem.Spec PyProof.Rows L2
theorem flat_snoc {α : Type} (f : α → List Int) (l : List α) (i : Nat) (x : α) (h : l[i]? = some x) : (l.take (i + 1)).flatMap f = (l.take i).flatMap f ++ f x := by
  rw [List.take_add_one, h, List.flatMap_append]
  show (l.take i).flatMap f ++ [x].flatMap f = _
  rw [List.flatMap_singleton]
theorem row_len (k : Pk) : (pkRow k).length = k.fs.length + 2 := by
  unfold pkRow
  rw [List.length_cons, List.length_append]
  rfl
theorem rows_len : ∀ {l : List Pk} (n : Nat), (∀ k ∈ l, k.fs.length ≤ 100) → ((l.take n).flatMap pkRow).length ≤ 102 * l.length
  | [], n, _ => by simp
  | a :: l, 0, _ => by simp
  | a :: l, n + 1, h => by
    have ih := rows_len (l := l) n fun k hk => h k (List.mem_cons_of_mem _ hk)
    have ha := h a (List.mem_cons_self ..)
    rw [List.take_succ_cons, List.flatMap_cons, List.length_append, row_len, List.length_cons]
    omega
section
variable {P : Program} {w : World} {K : PySem.W.Frag} {mg : Str → Option Value} {base : Heap} {C : Cs}
def spCorPk (K : PySem.W.Frag) (C : Cs) : Sp := fun vs H Q _ => ∃ (g : Gh) (i j : Nat) (a b : Addr) (c : Ch) (k n z : Int), vs = [.ref a, .ref b] ∧ ChAt C g H i j a c ∧ ChOk c ∧ SqL K H b ([k, n, z].map V.int) ∧ ¬ Part i j (g b) ∧
  ∀ H' p, Mv (Part i j) g H g H' → H p = none → ChAt C g H' i j a (c.corOp k n z).1 → H' p = some (.lst ((c.corOp k n z).2.map V.int)) → Q (.ref p) H'
theorem c_corrupt (T : Txt K mg C) : C8.Cal P w K mg base 2 "corrupt_packet" (spCorPk K C) [] := by
  have cH : C8.Met P w K mg base 1 C.Channel "holds" (spHolds C) [] := m_holds T
  have cG : C8.Met P w K mg base 1 C.Channel "packet_at" (spPkGet C) [] := m_packet_at T
  have cP : C8.Met P w K mg base 1 C.Packet "has_place" (spPkHas K C) [] := m_has_place T
  have cC : C8.Met P w K mg base 1 C.Packet "change" (spPkChange C) [] := m_change T
  refine df_g T.g_corrupt_packet sc_corrupt_packet (fun vs H Q E h => ?_) (fun f cdv A outer s H vs Q E hr h => ?_)
  · obtain ⟨_, _, _, _, _, _, _, _, _, rfl, _⟩ := h
    rfl
  · obtain ⟨g, i, j, a, b, c, k, n, z, rfl, hc, ok, hb, gb, q⟩ := h
    refine ⟨_, pss_cons (ps_if (pt_not (pt_val (C8.pe_mt cH hr (by decide) (pv 0) (pa_cons (pe_ix ix_list (pv 1) pe_int (fun _ _ => rfl)) pa_nil)))) (pss_one (ps_ret (pe_lst (pa_cons (pe_gi T.n_NO_PACKET) pa_nil)))) pss_nil)
      (pss_cons (ps_set (i := 2) sc_corrupt_packet.nd rfl (.inl rfl) (C8.pe_mt cG hr (by decide) (pv 0) (pa_cons (pe_ix ix_list (pv 1) pe_int (fun _ _ => rfl)) pa_nil)))
      (pss_cons (ps_set (i := 3) sc_corrupt_packet.nd rfl (.inl rfl) (pe_ix ix_list (pv 1) pe_int (fun _ _ => rfl)))
      (pss_cons (ps_set (i := 4) sc_corrupt_packet.nd rfl (.inl rfl) (pe_ix ix_list (pv 1) pe_int (fun _ _ => rfl)))
      (pss_cons (ps_if (PW.pt (pw_or (pt_not (pt_val (C8.pe_mt cP hr (by decide) (pv 2) (pa_cons (pv 3) pa_nil)))) (pw_or (pt_cmpR op_lt (pv 4) (pe_gi T.n_LOWEST_CHANGE) (nomark _)) (pw_or1 (pt_cmpR op_gt (pv 4) (pe_gi T.n_HIGHEST_CHANGE) (nomark _)))))) (pss_one (ps_ret (pe_lst (pa_cons (pe_gi T.n_OUT_OF_RANGE) pa_nil)))) pss_nil)
      (pss_cons (ps_expr (C8.pe_mt cC hr (by decide) (pv 2) (pa_cons (pv 3) (pa_cons (pv 4) pa_nil))))
      (pss_one (ps_ret (pe_lst (pa_cons pe_int pa_nil))))))))), ?_⟩
    have hc0 := hc
    obtain ⟨dx, l, qs, aA, aL, aP⟩ := hc0
    have ev : EtX (tNot (tB (tMeth C.Channel "holds" (spHolds C) [] C8.E0 (tVar 0) (tCons (tOp (rIxL K) (tVar 1) (tC (V.int 0))) tNil)))) (L2.start ["channel", "arguments", "packet", "place", "number"] [V.ref a, V.ref b]) H (!(inB k c.pk.length)) :=
      x_not (x_B fun Q' q' => x_meth (x_v 0) aA.2 nm_Channel_holds (x_cons (x_ix (n := 0) (x_v 1) x_c hb rfl) x_nil) ⟨g, i, j, a, c, k, rfl, hc, q'⟩)
    refine y_if ev (fun e2 => ?_) (fun e2 => ?_)
    · have e3 : inB k c.pk.length = false := by rw [Bool.not_eq_true'] at e2; exact e2
      have el : c.corOp k n z = (c, [-5]) := if_neg (by rw [e3]; exact Bool.false_ne_true)
      refine y_retl (x_cons x_c x_nil) (by show 1 ≤ 1000; decide) fun p np => q _ p (Mv.new' np) np ?_ ?_
      · rw [el]
        exact hc.mv (S := fun _ => False) (Mv.new' np) fun _ z => z
      · rw [el, upd_same]
        rfl
    · have e3 : inB k c.pk.length = true := by rw [Bool.not_eq_false'] at e2; exact e2
      have e4 := Bool.and_eq_true_iff.mp e3
      have h0 := of_decide_eq_true e4.1
      have h1 := of_decide_eq_true e4.2
      have sh := ok.short
      have ek : k = ((k.toNat : Nat) : Int) := by omega
      have lt : k.toNat < c.pk.length := by omega
      obtain ⟨pk, hpk⟩ : ∃ pk, c.pk[k.toNat]? = some pk := ⟨_, List.getElem?_eq_getElem lt⟩
      have ec : c.corOp k n z = if canCor pk n z = true then ({ c with pk := c.pk.set k.toNat (pk.cor n.toNat z) }, [0]) else (c, [-1]) := by
        unfold Ch.corOp
        rw [if_pos e3, hpk]
      dsimp only [tNext]
      obtain ⟨q1, hq1, dp, fp, p1, p2⟩ := Paired.at aP hpk
      refine x_meth (x_v 0) aA.2 nm_Channel_packet_at (x_cons (x_ix (n := 0) (x_v 1) x_c hb rfl) x_nil) ⟨a, dx, l, q1, qs, _, _, k.toNat, by rw [← ek]; rfl, aA.2, aL.2, hq1, ?_⟩
      have hlen := ok.len pk (List.mem_of_getElem? hpk)
      refine y_asg (x_ix (n := 1) (x_v 1) x_c hb rfl) ?_
      refine y_asg (x_ix (n := 2) (x_v 1) x_c hb rfl) ?_
      have ev2 : EtX (tNot (tB (tMeth C.Packet "has_place" (spPkHas K C) [] C8.E0 (tVar 2) (tCons (tVar 3) tNil)))) [some (V.ref a), some (V.ref b), some (V.ref q1), some (V.int n), some (V.int z)] H (!(decide (0 ≤ n) && decide (n ≤ (pk.fs.length : Int)))) :=
        x_not (x_B fun Q' q' => x_meth (x_v 2) p1.2 nm_Packet_has_place (x_cons (x_v 3) x_nil) ⟨q1, dp, fp, pk.fs, _, _, n, rfl, p1.2, .of p2.2, q'⟩)
      refine y_if (x_or ev2 fun _ => x_or (x_test (x_i0 (x_v 4) x_c)) fun _ => x_test (x_i0 (x_v 4) x_c)) (fun e => ?_) (fun e => ?_)
      · have en : canCor pk n z = false := by
          unfold canCor
          cases e1 : (decide (0 ≤ n) && decide (n ≤ (pk.fs.length : Int))) with
          | false => rfl
          | true =>
            rw [e1, Bool.not_true, Bool.false_or] at e
            rw [Bool.true_and, Bool.and_eq_false_iff]
            rcases Bool.or_eq_true_iff.mp e with y | y
            · have := of_decide_eq_true y
              exact .inl (decide_eq_false (by omega))
            · have := of_decide_eq_true y
              exact .inr (decide_eq_false (by omega))
        rw [en, if_neg Bool.false_ne_true] at ec
        refine y_retl (x_cons x_c x_nil) (by show 1 ≤ 1000; decide) fun p np => q _ p (Mv.new' np) np ?_ ?_
        · rw [ec]
          exact hc.mv (S := fun _ => False) (Mv.new' np) fun _ z => z
        · rw [ec, upd_same]
          rfl
      · obtain ⟨f1, f2⟩ := Bool.or_eq_false_iff.mp e
        obtain ⟨f3, f4⟩ := Bool.or_eq_false_iff.mp f2
        rw [Bool.not_eq_false'] at f1
        have r3 := of_decide_eq_false f3
        have r4 := of_decide_eq_false f4
        have en : canCor pk n z = true := by
          unfold canCor
          rw [f1, Bool.true_and, decide_eq_true (show -9999 ≤ z by omega), decide_eq_true (show z ≤ 99999 by omega)]
          rfl
        rw [if_pos en] at ec
        have f5 := Bool.and_eq_true_iff.mp f1
        have n0 := of_decide_eq_true f5.1
        have n1 := of_decide_eq_true f5.2
        have enn : n = ((n.toNat : Nat) : Int) := by omega
        dsimp only [tNext]
        -- what stands behind the change
        have fin : ∀ H', Mv (fun r => r = (i, j, 2 * pk.ser + 2) ∨ r = (i, j, 2 * pk.ser + 3)) g H g H' → PkAt C g H' i j q1 (pk.cor n.toNat z) → tRet (tLst (tCons (tC (V.int 0)) tNil)) { nx := fun x H' => Q V.non H', rt := Q } [some (V.ref a), some (V.ref b), some (V.ref q1), some (V.int n), some (V.int z)] H' := fun H' mv pa' => by
          have mvP : Mv (Part i j) g H g H' := mv.mono fun r y => by
            rcases y with y | y <;> (rw [y]; exact ⟨rfl, rfl⟩)
          have off : ∀ m : Nat, m ≠ 2 * pk.ser + 2 → m ≠ 2 * pk.ser + 3 → ¬ ((i, j, m) = ((i, j, 2 * pk.ser + 2) : Role) ∨ (i, j, m) = ((i, j, 2 * pk.ser + 3) : Role)) := fun m h1 h2 y => y.elim (role_ne h1) (role_ne h2)
          have hc' : ChAt C g H' i j a { c with pk := c.pk.set k.toNat (pk.cor n.toNat z) } :=
            ⟨dx, l, qs, aA.mv mv (off _ (by omega) (by omega)), aL.mv mv (off _ (by omega) (by omega)), paired_set aP hq1 pa' fun m x y hm hx hy p => by
              have := ok.apart hpk hy hm
              exact p.mv mv (off _ (by omega) (by omega)) (off _ (by omega) (by omega))⟩
          refine y_retl (x_cons x_c x_nil) (by show 1 ≤ 1000; decide) fun p np => q _ p (mvP.trans (Mv.new' np)) (mvP.free np) ?_ ?_
          · rw [ec]
            exact hc'.mv (S := fun _ => False) (Mv.new' np) fun _ z => z
          · rw [ec, upd_same]
            rfl
        have nqf : q1 ≠ fp := At.ne p1 p2 (role_ne (by omega))
        refine y_drop (x_meth (x_v 2) p1.2 nm_Packet_change (x_cons (x_v 3) (x_cons (x_v 4) x_nil)) ⟨q1, dp, fp, pk.fs, pk.ck, z, .int pk.ser, n.toNat, by rw [← enn]; rfl, p1.2, p2.2, by omega, fun e5 => ?_, fun e5 => ?_⟩)
        · refine fin _ (Mv.set p1.2 (.inl p1.1)) ⟨dp, fp, ⟨by rw [cor_ser]; exact p1.1, ?_⟩, by rw [cor_ser]; exact p2.1, ?_⟩
          · rw [upd_same, cor_ser]
            unfold Pk.cor
            rw [if_pos e5]
          · rw [upd_ne (Ne.symm nqf), p2.2]
            unfold Pk.cor
            rw [if_pos e5]
        · refine fin _ (Mv.set p2.2 (.inr p2.1)) ⟨dp, fp, ⟨by rw [cor_ser]; exact p1.1, ?_⟩, by rw [cor_ser]; exact p2.1, ?_⟩
          · rw [upd_ne nqf, p1.2, cor_ser]
            unfold Pk.cor
            rw [if_neg (by omega)]
          · rw [upd_same]
            unfold Pk.cor
            rw [if_neg (by omega)]
/-! packet_list -/
def spPkList (C : Cs) : Sp := fun vs H Q _ => ∃ (g : Gh) (i j : Nat) (a : Addr) (c : Ch), vs = [.ref a] ∧ ChAt C g H i j a c ∧ ChOk c ∧ ∀ H' p, Same H H' → H p = none → H' p = some (.lst ((pkList c).map V.int)) → Q (.ref p) H'
theorem c_packet_list (T : Txt K mg C) : C8.Cal P w K mg base 2 "packet_list" (spPkList C) [] := by
  have cT : C8.Cal P w K mg base 1 "told_list" spTold [] := c_told_list T
  have cl := T.k_Channel.cl
  have clP := T.k_Packet.cl
  refine df_g T.g_packet_list sc_packet_list (fun vs H Q E h => ?_) (fun f cdv A outer s H vs Q E hr h => ?_)
  · obtain ⟨_, _, _, _, _, rfl, _⟩ := h
    rfl
  · obtain ⟨g, i, j, a, c, rfl, ⟨dx, l, qs, aA, aL, aP⟩, ok, q⟩ := h
    refine ⟨_, pss_cons (ps_set (i := 1) sc_packet_list.nd rfl (.inl rfl) (pe_lst (pa_cons (pe_ln T.b_len (pe_fld (pv 0) rfl)) pa_nil)))
      (pss_cons (ps_for PassesOwn.never rfl (pi_list (pe_fld (pv 0) rfl)) (pg_name (i := 2) sc_packet_list.nd rfl (.inl rfl))
        (pss_one (ps_expr (pe_bm PySem.F.plainAttrs_list PySem.F.slot_list_extend PySem.F.type_list_extend mt_extend (pv 1) (pa_cons (C8.pe_c cT hr (by decide) (by rfl) (pa_cons (pe_op op_cat (pe_fld (pv 2) rfl) (pe_lst (pa_cons (pe_fld (pv 2) rfl) pa_nil))) pa_nil)) pa_nil)))))
      (pss_one (ps_ret (pv 1)))), ?_⟩
    have lq : qs.length = c.pk.length := Paired.length aP
    have sh := ok.short
    have hlst : ∀ n, ((c.pk.take n).flatMap pkRow).length ≤ 2040 := fun n => by
      have := rows_len (l := c.pk) n fun k hk => (ok.len k hk).2
      omega
    refine y_asgl (x_cons (x_len (x_fld (x_v 0) aA.2 cl (no_Channel_packets T) lk_Channel_packets) (.of aL.2)) x_nil) (by show 1 ≤ 1000; decide) fun o no => ?_
    have s1 : Same H (upd H o (.lst [.int (qs.map V.ref).length])) := same_new no
    refine ⟨_, rfl, a, C.Channel, dx, _, _, rfl, s1 _ _ aA.2, cl, no_Channel_packets T, lk_Channel_packets, l, rfl, ⟨_, .of (s1 _ _ aL.2)⟩, for_list (K := K) (a := l) (xs := qs.map V.ref) (fun n σ H' => (∃ y, σ = [some (.ref a), some (.ref o), y]) ∧ Same H H' ∧ H' o = some (.lst (((c.pk.length : Int) :: (c.pk.take n).flatMap pkRow).map V.int)))
      ⟨⟨_, rfl⟩, s1, ?_⟩ (fun n σ H' _ h => .of (h.2.1 _ _ aL.2)) ?_ ?_⟩
    · rw [upd_same, List.length_map, lq]
      rfl
    · rintro n y H1 H' hy ⟨⟨y2, rfl⟩, sm, hO⟩
      obtain ⟨q0, hq, rfl⟩ := map_get hy
      obtain ⟨kk, hkk, dp, fp, p1, p2⟩ := Paired.get aP hq
      have hlen := (ok.len kk (List.mem_of_getElem? hkk)).2
      have hn := hlst n
      have P1 := sm _ _ p1.2
      have P2 := sm _ _ p2.2
      refine ⟨_, rfl, .inl ⟨rfl, _, SqL.of hO⟩, _, rfl, q0, C.Packet, dp, _, _, rfl, P1, clP, no_Packet_fields T, lk_Packet_fields, _, rfl, q0, C.Packet, dp, _, _, rfl, P1, clP, no_Packet_checksum T, lk_Packet_checksum, (by show 1 ≤ sizeLine; decide), fun u nu => ?_⟩
      have su : Same H' (upd H' u (.lst [.int kk.ck])) := same_new nu
      refine ⟨fp, u, _, _, rfl, rfl, su _ _ P2, upd_same, ?_, fun v nv => ?_⟩
      · rw [List.length_map]
        exact Nat.le_trans (by show _ + 1 ≤ 3000; omega) (by decide)
      have sv := su.trans (same_new nv (o := .lst (kk.fs.map V.int ++ [.int kk.ck])))
      have ev : kk.fs.map V.int ++ [V.int kk.ck] = (kk.fs ++ [kk.ck]).map V.int := by
        rw [List.map_append]
        rfl
      rw [ev] at sv ⊢
      refine ⟨v, kk.fs ++ [kk.ck], rfl, upd_same, ?_, fun H2 z s2 nz hz => ?_⟩
      · rw [List.length_append]
        show _ + 1 ≤ 10000000
        omega
      have sz := sv.trans s2
      have hO2 := sz _ _ hO
      refine ⟨o, z, _, _, rfl, rfl, hO2, hz, ?_, ?_⟩
      · unfold tl
        rw [List.length_map, List.length_map, List.length_cons, List.length_cons, List.length_append]
        exact Nat.le_trans (by show _ + 1 + (_ + 1 + 1) ≤ 3000; omega) (by decide)
      refine ⟨⟨_, rfl⟩, same_upd (sm.trans sz) no, ?_⟩
      rw [upd_same, flat_snoc pkRow c.pk n kk hkk]
      have e : pkRow kk = tl (kk.fs ++ [kk.ck]) := by
        unfold pkRow tl
        rw [List.length_append]
        rfl
      rw [e, ← List.map_append]
      rfl
    · rintro σ H' ⟨⟨y2, rfl⟩, sm, hO⟩
      dsimp only
      refine y_ret (x_v 1) (q H' o sm no ?_)
      rw [hO, List.length_map, lq, List.take_length]
      rfl
end
end W170

namespace W170
open PySem PySem.Spec PyProof.Rows L2
/-! ### the receiver as it lies in the heap: of link i, part 4 -/
def ItAt (g : Gh) (H : Hp) (p : Addr) (it : List Int) : Prop := At g H imm p (.lst (it.map V.int))
theorem ItAt.mv {S : Role → Prop} {g g' : Gh} {H H' : Hp} {p : Addr} {it : List Int} (a : ItAt g H p it) (m : Mv S g H g' H') (h : ¬ S imm) : ItAt g' H' p it := At.mv a m h
/-- the dict of what was received -/
structure RcvAt (g : Gh) (H : Hp) (kvs : List (Key × V)) (f : Nat → Option (List Int)) : Prop where
  no : ∀ n : Nat, f n = none → valV kvs (.inl (n : Int)) = none
  yes : ∀ (n : Nat) (it : List Int), f n = some it → ∃ p, valV kvs (.inl (n : Int)) = some (.ref p) ∧ ItAt g H p it
def DelAt (g : Gh) (H : Hp) (t : Addr) (x : Nat × List Int) : Prop := ∃ p, At g H imm t (.tup [.int x.1, .ref p]) ∧ ItAt g H p x.2
def RcAt (C : Cs) (g : Gh) (H : Hp) (i : Nat) (a : Addr) (W M : Nat) (ord : Bool) (r : Rc) : Prop := ∃ dx d l kvs ps, At g H (i, 4, 0) a (.ins C.Receiver dx (F_Receiver (.int W) (.int M) (.bl ord) (.int r.x) (.ref d) (.ref l))) ∧
  At g H (i, 4, 1) d (.dK kvs) ∧ At g H (i, 4, 2) l (.lst (ps.map V.ref)) ∧ kvs.length ≤ r.cnt ∧ RcvAt g H kvs r.rcv ∧ Paired (DelAt g H) ps r.del
structure RcOk (r : Rc) (b : Nat) : Prop where
  x : r.x ≤ b
  del : r.del.length ≤ b
  cnt : r.cnt ≤ b
theorem RcvAt.mv {S : Role → Prop} {g g' : Gh} {H H' : Hp} {kvs : List (Key × V)} {f : Nat → Option (List Int)} (a : RcvAt g H kvs f) (m : Mv S g H g' H') (h : ¬ S imm) : RcvAt g' H' kvs f :=
  ⟨a.no, fun n it e => by
    obtain ⟨p, e1, e2⟩ := a.yes n it e
    exact ⟨p, e1, e2.mv m h⟩⟩
theorem DelAt.mv {S : Role → Prop} {g g' : Gh} {H H' : Hp} {t : Addr} {x : Nat × List Int} (a : DelAt g H t x) (m : Mv S g H g' H') (h : ¬ S imm) : DelAt g' H' t x := by
  obtain ⟨p, a1, a2⟩ := a
  exact ⟨p, a1.mv m h, a2.mv m h⟩
theorem RcAt.mv {C : Cs} {S : Role → Prop} {g g' : Gh} {H H' : Hp} {i : Nat} {a : Addr} {W M : Nat} {ord : Bool} {r : Rc} (h : RcAt C g H i a W M ord r) (m : Mv S g H g' H') (hs : ∀ n, ¬ S (i, 4, n)) (hi : ¬ S imm) : RcAt C g' H' i a W M ord r := by
  obtain ⟨dx, d, l, kvs, ps, a1, a2, a3, a4, a5, a6⟩ := h
  exact ⟨dx, d, l, kvs, ps, a1.mv m (hs _), a2.mv m (hs _), a3.mv m (hs _), a4, a5.mv m hi, Paired.mapP a6 fun t x p => p.mv m hi⟩
theorem part_imm {i j : Nat} (h : j ≠ 9) : ¬ Part i j imm := fun z => h z.2.symm
theorem cut_one (xs : List V) : cutV xs (some 1) none = xs.drop 1 := by
  unfold cutV
  rw [HT.sIx_none, show HT.sIx xs.length 0 (some 1) = min 1 xs.length from HT.sIx_nat xs.length 0 1]
  rcases xs with _ | ⟨x, r⟩
  · rfl
  · have e : min 1 (x :: r).length = 1 := by
      show min 1 (r.length + 1) = 1
      omega
    rw [e]
    exact List.take_of_length_le (Nat.le_refl _)
section
variable {P : Program} {w : World} {K : PySem.W.Frag} {mg : Str → Option Value} {base : Heap} {C : Cs}
def spRcInit (C : Cs) : Sp := fun vs H Q _ => ∃ (p dx : Addr) (W M : Nat) (ord : Bool), vs = [.ref p, .int W, .int M, .bl ord] ∧ H p = some (.ins C.Receiver dx []) ∧
  ∀ (H' : Hp) (d l : Addr), H d = none → H l = none → d ≠ l → H' p = some (.ins C.Receiver dx (F_Receiver (.int W) (.int M) (.bl ord) (.int 0) (.ref d) (.ref l))) → H' d = some (.dK []) → H' l = some (.lst []) → (∀ b o, H b = some o → b ≠ p → H' b = some o) → Q .non H'
theorem k_Receiver (T : Txt K mg C) : C8.Mak P w K mg base 1 "Receiver" C.Receiver (spRcInit C) [] := by
  have cl := T.k_Receiver.cl
  refine df_c T.k_Receiver sc_Receiver_init (fun vs H Q E h => ?_) (fun f cdv A outer s H vs Q E hr h => ?_)
  · obtain ⟨_, _, _, _, _, rfl, _⟩ := h
    rfl
  · obtain ⟨p, dx, W, M, ord, rfl, hp, k⟩ := h
    refine ⟨_, pss_cons (ps_fld (pv 0) (pv 1) rfl) (pss_cons (ps_fld (pv 0) (pv 2) rfl) (pss_cons (ps_fld (pv 0) (pv 3) rfl) (pss_cons (ps_fld (pv 0) pe_int rfl) (pss_cons (ps_fld (pv 0) pe_dnewK rfl) (pss_one (ps_fld (pv 0) (pe_lst pa_nil) rfl)))))), ?_⟩
    refine y_fld (x_v 1) (x_v 0) hp cl (no_Receiver_window_size T) (lt_nil (by decide)) ?_
    refine y_fld (x_v 2) (x_v 0) upd_same cl (no_Receiver_modulus T) (lt_put (n := 999) (lt_nil (by decide))) ?_
    refine y_fld (x_v 3) (x_v 0) upd_same cl (no_Receiver_ordered T) (lt_put (n := 999) (lt_put (n := 998) (lt_nil (by decide)))) ?_
    refine y_fld x_c (x_v 0) upd_same cl (no_Receiver_lowest_missing T) (lt_put (n := 999) (lt_put (n := 998) (lt_put (n := 997) (lt_nil (by decide))))) ?_
    refine fun d nd => ?_
    have npd : p ≠ d := ne_of_none upd_same nd
    have nd0 : H d = none := by
      rw [upd_ne (Ne.symm npd), upd_ne (Ne.symm npd), upd_ne (Ne.symm npd), upd_ne (Ne.symm npd)] at nd
      exact nd
    refine ⟨_, rfl, p, C.Receiver, dx, _, rfl, (upd_ne npd).trans upd_same, cl, no_Receiver_received T, lt_put (n := 999) (lt_put (n := 998) (lt_put (n := 997) (lt_put (n := 996) (lt_nil (by decide))))), ?_⟩
    refine ⟨Nat.zero_le _, fun l nl => ?_⟩
    have npl : p ≠ l := ne_of_none upd_same nl
    have ndl : d ≠ l := fun z => by
      rw [← z, upd_ne (Ne.symm npd), upd_same] at nl
      cases nl
    have nl0 : H l = none := by
      rw [upd_ne (Ne.symm npl), upd_ne (Ne.symm ndl), upd_ne (Ne.symm npl), upd_ne (Ne.symm npl), upd_ne (Ne.symm npl), upd_ne (Ne.symm npl)] at nl
      exact nl
    refine ⟨_, rfl, p, C.Receiver, dx, _, rfl, (upd_ne npl).trans upd_same, cl, no_Receiver_delivered T, lt_put (n := 999) (lt_put (n := 998) (lt_put (n := 997) (lt_put (n := 996) (lt_put (n := 995) (lt_nil (by decide)))))), ?_⟩
    refine k _ d l nd0 nl0 ndl ?_ ?_ ?_ fun b o e hb => ?_
    · rw [upd_same, new_Receiver]
    · rw [upd_ne (Ne.symm npd), upd_ne ndl, upd_ne (Ne.symm npd), upd_same]
    · rw [upd_ne (Ne.symm npl), upd_same]
    · rw [upd_ne hb, upd_ne (ne_of_none e nl0), upd_ne hb, upd_ne (ne_of_none e nd0), upd_ne hb, upd_ne hb, upd_ne hb, upd_ne hb]
      exact e
def spDeliver (C : Cs) : Sp := fun vs H Q _ => ∃ (g : Gh) (i : Nat) (a : Addr) (W M : Nat) (ord : Bool) (r : Rc) (n : Nat) (it : List Int), vs = [.ref a, .int n] ∧ RcAt C g H i a W M ord r ∧ r.del.length < 10000000 ∧ r.rcv n = some it ∧
  ∀ g' H', Mv (Part i 4) g H g' H' → RcAt C g' H' i a W M ord { r with del := r.del ++ [(n, it)] } → Q .non H'
theorem m_deliver (T : Txt K mg C) : C8.Met P w K mg base 1 C.Receiver "deliver" (spDeliver C) [] := by
  have cl := T.k_Receiver.cl
  refine df_m T.m_Receiver_deliver sc_Receiver_deliver (fun vs H Q E h => ?_) (fun f cdv A outer s H vs Q E hr h => ?_)
  · obtain ⟨_, _, _, _, _, _, _, _, _, rfl, _⟩ := h
    rfl
  · obtain ⟨g, i, a, W, M, ord, r, n, it, rfl, ⟨dx, d, l, kvs, ps, aA, aD, aL, hk, hR, hP⟩, hl, hn, k⟩ := h
    refine ⟨_, pss_one (ps_expr (pe_bm PySem.F.plainAttrs_list PySem.F.slot_list_append PySem.F.type_list_append mt_append (pe_fld (pv 0) rfl) (pa_cons (pe_tup (pa_cons (pv 1) (pa_cons (pe_dget (hu_of hr) (pe_fld (pv 0) rfl) (pv 1) (fun _ _ => rfl)) pa_nil))) pa_nil))), ?_⟩
    obtain ⟨p, e1, e2⟩ := hR.yes n it hn
    refine y_app (x_fld (x_v 0) aA.2 cl (no_Receiver_delivered T) lk_Receiver_delivered) aL.2 ?_
    refine ⟨_, rfl, _, rfl, a, C.Receiver, dx, _, _, rfl, aA.2, cl, no_Receiver_received T, lk_Receiver_received, _, rfl, d, .ref p, rfl, e1 ▸ DGet.k (k := .inl (n : Int)) aD.2, (by show 2 ≤ sizeLine; decide), fun t nt => ?_⟩
    have s1 : Same H (upd H t (.tup [.int n, .ref p])) := same_new nt
    refine ⟨l, ps.map V.ref, .ref t, rfl, rfl, s1 _ _ aL.2, ?_, ?_⟩
    · rw [List.length_map, Paired.length hP]
      exact Nat.lt_trans hl (by decide)
    have nlt : t ≠ l := fun z => by rw [z, aL.2] at nt; cases nt
    have mv1 : Mv (Part i 4) g H (tagAt g t imm) (upd H t (.tup [.int n, .ref p])) := Mv.sameTag s1 nt imm
    have gl : tagAt g t imm l = (i, 4, 2) := (tag_ne (Ne.symm nlt)).trans aL.1
    have mv2 : Mv (fun r => r = (i, 4, 2)) (tagAt g t imm) (upd H t (.tup [.int n, .ref p])) (tagAt g t imm) (upd (upd H t (.tup [.int n, .ref p])) l (.lst (ps.map V.ref ++ [.ref t]))) := Mv.set (s1 _ _ aL.2) gl
    have mv : Mv (fun r => r = (i, 4, 2)) g H (tagAt g t imm) (upd (upd H t (.tup [.int n, .ref p])) l (.lst (ps.map V.ref ++ [.ref t]))) := (Mv.sameTag s1 nt imm).trans mv2
    have ni : ¬ imm = ((i, 4, 2) : Role) := fun z => by cases congrArg (fun r : Role => r.2.1) z
    refine k _ _ (mv.mono fun r z => by rw [z]; exact ⟨rfl, rfl⟩) ⟨dx, d, l, kvs, ps ++ [t], aA.mv mv (role_ne (by omega)), aD.mv mv (role_ne (by omega)), ⟨gl, ?_⟩, hk, hR.mv mv ni, Paired.snoc ⟨p, ⟨tag_same, ?_⟩, e2.mv mv ni⟩ (Paired.mapP hP fun q x y => y.mv mv ni)⟩
    · rw [upd_same, List.map_append]
      rfl
    · rw [upd_ne nlt, upd_same]
end
end W170

namespace W170
open PySem PySem.Spec PyProof.Rows L2
theorem x_din {σ : L2.St} {H : Hp} {tk td : TE} {d : Addr} {kvs : List (Key × V)} {n : Int} (hk : EvX tk σ H (.int n)) (hd : EvX td σ H (.ref d)) (h : H d = some (.dK kvs)) : EvX (tDIn tk td) σ H (.bl (valV kvs (.inl n)).isSome) :=
  fun Q q => hk _ (hd _ ⟨d, _, rfl, DGet.k (k := .inl n) h, q⟩)
theorem x_dnin {σ : L2.St} {H : Hp} {tk td : TE} {d : Addr} {kvs : List (Key × V)} {n : Int} (hk : EvX tk σ H (.int n)) (hd : EvX td σ H (.ref d)) (h : H d = some (.dK kvs)) : EvX (tDNotIn tk td) σ H (.bl (!(valV kvs (.inl n)).isSome)) :=
  fun Q q => hk _ (hd _ ⟨d, _, rfl, DGet.k (k := .inl n) h, q⟩)
theorem RcvAt.isSome {g : Gh} {H : Hp} {kvs : List (Key × V)} {f : Nat → Option (List Int)} (h : RcvAt g H kvs f) (n : Nat) : (valV kvs (.inl (n : Int))).isSome = (f n).isSome := by
  cases e : f n with
  | none =>
    rw [h.no n e]
    rfl
  | some it =>
    obtain ⟨p, e1, _⟩ := h.yes n it e
    rw [e1]
    rfl
theorem pass_one {ord : Bool} {m : Nat} {r : Rc} {it : List Int} (h : r.rcv r.x = some it) : Rc.pass ord (m + 1) r = Rc.pass ord m { r with x := r.x + 1, del := if ord = true then r.del ++ [(r.x, it)] else r.del } := by
  show (match r.rcv r.x with
    | none => r
    | some it => Rc.pass ord m { r with x := r.x + 1, del := if ord = true then r.del ++ [(r.x, it)] else r.del }) = _
  rw [h]
theorem pass_none {ord : Bool} {m : Nat} {r : Rc} (h : r.rcv r.x = none) : Rc.pass ord m r = r := by
  cases m with
  | zero => rfl
  | succ m =>
    show (match r.rcv r.x with
      | none => r
      | some it => Rc.pass ord m { r with x := r.x + 1, del := if ord = true then r.del ++ [(r.x, it)] else r.del }) = _
    rw [h]
section
variable {P : Program} {w : World} {K : PySem.W.Frag} {mg : Str → Option Value} {base : Heap} {C : Cs}
def spPass (C : Cs) : Sp := fun vs H Q _ => ∃ (g : Gh) (i : Nat) (a : Addr) (W M : Nat) (ord : Bool) (r : Rc), vs = [.ref a] ∧ RcAt C g H i a W M ord r ∧ r.del.length + W < 10000000 ∧ (∀ n, (r.rcv n).isSome = true → n < r.x + W) ∧
  ∀ g' H', Mv (Part i 4) g H g' H' → RcAt C g' H' i a W M ord (Rc.pass ord W r) → Q .non H'
theorem m_pass (T : Txt K mg C) : C8.Met P w K mg base 2 C.Receiver "pass_received" (spPass C) [] := by
  have cD : C8.Met P w K mg base 1 C.Receiver "deliver" (spDeliver C) [] := m_deliver T
  have cl := T.k_Receiver.cl
  refine df_m T.m_Receiver_pass_received sc_Receiver_pass_received (fun vs H Q E h => ?_) (fun f cdv A outer s H vs Q E hr h => ?_)
  · obtain ⟨_, _, _, _, _, _, _, rfl, _⟩ := h
    rfl
  · obtain ⟨g, i, a, W, M, ord, r, rfl, hR, hl, hb, k⟩ := h
    refine ⟨_, pss_one (ps_while PassesOwn.never (pt_cmp (pc_din (hu_of hr) (pe_fld (pv 0) rfl) (pe_fld (pv 0) rfl)))
      (pss_cons (ps_if (pt_val (pe_fld (pv 0) rfl)) (pss_one (ps_expr (C8.pe_mt cD hr (by decide) (pv 0) (pa_cons (pe_fld (pv 0) rfl) pa_nil)))) pss_nil)
      (pss_one (ps_fldaug (pv 0) pe_int in_add)))), ?_⟩
    refine ⟨fun m σ H1 => ∃ g1 r1, σ = [some (.ref a)] ∧ Mv (Part i 4) g H g1 H1 ∧ RcAt C g1 H1 i a W M ord r1 ∧ Rc.pass ord m r1 = Rc.pass ord W r ∧ (∀ n, (r1.rcv n).isSome = true → n < r1.x + m) ∧ r1.del.length + m ≤ r.del.length + W,
      ⟨W, g, r, rfl, Mv.refl, hR, rfl, hb, Nat.le_refl _⟩, ?_⟩
    rintro m σ H1 ⟨g1, r1, rfl, mv, hR1, ep, hb1, hl1⟩
    have hR1' := hR1
    obtain ⟨dx, d, l, kvs, ps, aA, aD, aL, hk, hRv, hP⟩ := hR1'
    refine x_B (x_is (x_din (x_fld (x_v 0) aA.2 cl (no_Receiver_lowest_missing T) lk_Receiver_lowest_missing) (x_fld (x_v 0) aA.2 cl (no_Receiver_received T) lk_Receiver_received) aD.2) (congrArg V.bl (hRv.isSome r1.x))) _ ?_
    refine if_c (fun e => ?_) (fun e => ?_)
    · obtain ⟨it, hit⟩ := Option.isSome_iff_exists.mp e
      have hx := hb1 r1.x e
      obtain ⟨m', rfl⟩ : ∃ m', m = m' + 1 := ⟨m - 1, by omega⟩
      refine ⟨fun σ2 H2 => ∃ g2 r2, σ2 = [some (.ref a)] ∧ Mv (Part i 4) g H g2 H2 ∧ RcAt C g2 H2 i a W M ord r2 ∧ Rc.pass ord m' r2 = Rc.pass ord W r ∧ (∀ n, (r2.rcv n).isSome = true → n < r2.x + m') ∧ r2.del.length + m' ≤ r.del.length + W, fun σ2 H2 h => ⟨m', Nat.lt_succ_self _, h⟩, ?_⟩
      have fin : ∀ g2 H2, Mv (Part i 4) g H g2 H2 → RcAt C g2 H2 i a W M ord { r1 with del := if ord = true then r1.del ++ [(r1.x, it)] else r1.del } →
          sFldAug K (tVar 0) (tC (.int 1)) rAdd "lowest_missing" { nx := fun σ2 H2 => ∃ g2 r2, σ2 = [some (.ref a)] ∧ Mv (Part i 4) g H g2 H2 ∧ RcAt C g2 H2 i a W M ord r2 ∧ Rc.pass ord m' r2 = Rc.pass ord W r ∧ (∀ n, (r2.rcv n).isSome = true → n < r2.x + m') ∧ r2.del.length + m' ≤ r.del.length + W, rt := Q, bk := fun _ H' => Q .non H', ct := fun σ2 H2 => ∃ g2 r2, σ2 = [some (.ref a)] ∧ Mv (Part i 4) g H g2 H2 ∧ RcAt C g2 H2 i a W M ord r2 ∧ Rc.pass ord m' r2 = Rc.pass ord W r ∧ (∀ n, (r2.rcv n).isSome = true → n < r2.x + m') ∧ r2.del.length + m' ≤ r.del.length + W } [some (.ref a)] H2 := fun g2 H2 mv2 hR2 => by
        obtain ⟨dx2, d2, l2, kvs2, ps2, bA, bD, bL, hk2, hRv2, hP2⟩ := hR2
        refine y_aug (x_v 0) bA.2 cl (no_Receiver_lowest_missing T) lk_Receiver_lowest_missing x_c len_Receiver ?_
        rw [put_Receiver_lowest_missing]
        have mv3 : Mv (fun r => r = (i, 4, 0)) g2 H2 g2 (upd H2 a (.ins C.Receiver dx2 (F_Receiver (.int W) (.int M) (.bl ord) (.int ((r1.x : Int) + 1)) (.ref d2) (.ref l2)))) := Mv.set bA.2 bA.1
        have ni : ¬ imm = ((i, 4, 0) : Role) := fun z => by cases congrArg (fun r : Role => r.2.1) z
        refine ⟨g2, { r1 with x := r1.x + 1, del := if ord = true then r1.del ++ [(r1.x, it)] else r1.del }, rfl, mv2.trans (mv3.mono fun r z => by rw [z]; exact ⟨rfl, rfl⟩), ⟨dx2, d2, l2, kvs2, ps2, ⟨bA.1, upd_same⟩, bD.mv mv3 (role_ne (by omega)), bL.mv mv3 (role_ne (by omega)), hk2, hRv2.mv mv3 ni, Paired.mapP hP2 fun q x y => y.mv mv3 ni⟩, ?_, fun n hn => ?_, ?_⟩
        · rw [← pass_one hit]
          exact ep
        · have := hb1 n hn
          show n < r1.x + 1 + m'
          omega
        · show (if ord = true then r1.del ++ [(r1.x, it)] else r1.del).length + m' ≤ _
          have : (if ord = true then r1.del ++ [(r1.x, it)] else r1.del).length ≤ r1.del.length + 1 := by
            split
            · rw [List.length_append]
              exact Nat.le_refl _
            · exact Nat.le_succ _
          omega
      refine y_if (x_B (x_fld (x_v 0) aA.2 cl (no_Receiver_ordered T) lk_Receiver_ordered)) (fun eo => ?_) (fun eo => ?_)
      · refine y_drop (x_meth (x_v 0) aA.2 nm_Receiver_deliver (x_cons (x_fld (x_v 0) aA.2 cl (no_Receiver_lowest_missing T) lk_Receiver_lowest_missing) x_nil) ⟨g1, i, a, W, M, ord, r1, r1.x, it, rfl, hR1, by omega, hit, fun g2 H2 mv2 hR2 => ?_⟩)
        refine fin g2 H2 (mv.trans mv2) ?_
        rw [if_pos eo]
        exact hR2
      · refine fin g1 H1 mv ?_
        rw [eo, if_neg Bool.false_ne_true]
        rw [eo] at hR1
        exact hR1
    · have en : r1.rcv r1.x = none := Option.isNone_iff_eq_none.mp (by rw [Option.isNone_iff_eq_none]; exact Option.not_isSome_iff_eq_none.mp (by rw [e]; exact Bool.false_ne_true))
      rw [pass_none en] at ep
      rw [ep] at hR1
      exact k g1 H1 mv hR1
end
end W170

namespace W170
open PySem PySem.Spec PyProof.Rows L2
theorem RcvAt.put {g : Gh} {H : Hp} {kvs : List (Key × V)} {f : Nat → Option (List Int)} (h : RcvAt g H kvs f) {n : Nat} {p : Addr} {it : List Int} (hp : ItAt g H p it) : RcvAt g H (putK kvs (.inl (n : Int)) (.ref p)) (setO f n it) where
  no := fun m e => by
    unfold setO at e
    by_cases z : m = n
    · rw [if_pos z] at e
      cases e
    · rw [if_neg z] at e
      rw [valV_put, if_neg (fun q => z (by have := Sum.inl.inj q; omega))]
      exact h.no m e
  yes := fun m it' e => by
    unfold setO at e
    by_cases z : m = n
    · rw [if_pos z] at e
      have e2 := Option.some.inj e
      subst e2
      refine ⟨p, ?_, hp⟩
      rw [valV_put, if_pos (by rw [z])]
    · rw [if_neg z] at e
      rw [valV_put, if_neg (fun q => z (by have := Sum.inl.inj q; omega))]
      exact h.yes m it' e
section
variable {P : Program} {w : World} {K : PySem.W.Frag} {mg : Str → Option Value} {base : Heap} {C : Cs}
theorem x_isN {σ : L2.St} {H : Hp} {ta tb : TE} {x : V} (h : EvX ta σ H x) (hb : EvX tb σ H .non) : EvX (tOp (fun x y H Q => y = .non ∧ Q (.bl (decide (x = .non))) H) ta tb) σ H (.bl (decide (x = .non))) := fun Q q => h _ (hb _ ⟨rfl, q⟩)
theorem x_isNf {σ : L2.St} {H : Hp} {ta tb : TE} {i : Int} (h : EvX ta σ H (.int i)) (hb : EvX tb σ H .non) : EvX (tOp (fun x y H Q => y = .non ∧ Q (.bl (decide (x = .non))) H) ta tb) σ H (.bl false) := fun Q q => h _ (hb _ ⟨rfl, by
  rw [decide_eq_false (fun z => by cases z)]
  exact q⟩)
def spRcv (K : PySem.W.Frag) (C : Cs) : Sp := fun vs H Q _ => ∃ (g : Gh) (i : Nat) (a q : Addr) (W M : Nat) (ord : Bool) (r : Rc) (k : Pk) (b : Nat), vs = [.ref a, .ref q] ∧ RcAt C g H i a W M ord r ∧ PkAt C g H i 1 q k ∧ (1 ≤ k.fs.length ∧ k.fs.length ≤ 100) ∧ RcOk r b ∧ b ≤ 9000000 ∧ W ≤ 8 ∧ 0 < M ∧
  (∀ n, (r.rcv n).isSome = true → n < r.x + W) ∧ ∀ g' H', Mv (Part i 4) g H g' H' → RcAt C g' H' i a W M ord (frameStep W M ord r k.fs (decide (k.ck = Vbtwad.checksumOf k.fs))).1 → Q (.int ((frameStep W M ord r k.fs (decide (k.ck = Vbtwad.checksumOf k.fs))).2 : Nat)) H'
theorem m_receive_frame (T : Txt K mg C) : C8.Met P w K mg base 3 C.Receiver "receive_frame" (spRcv K C) [] := by
  have cP : C8.Met P w K mg base 2 C.Receiver "pass_received" (spPass C) [] := m_pass T
  have cD : C8.Met P w K mg base 1 C.Receiver "deliver" (spDeliver C) [] := m_deliver T
  have cC : C8.Met P w K mg base 2 C.Packet "is_corrupted" (spPkCor K C) [] := m_is_corrupted T
  have cM : C8.Cal P w K mg base 1 "number_meant" spMeant [] := c_number_meant T
  have cl := T.k_Receiver.cl
  have clP := T.k_Packet.cl
  refine df_m T.m_Receiver_receive_frame sc_Receiver_receive_frame (fun vs H Q E h => ?_) (fun f cdv A outer s H vs Q E hr h => ?_)
  · obtain ⟨_, _, _, _, _, _, _, _, _, _, rfl, _⟩ := h
    rfl
  · obtain ⟨g, i, a, q, W, M, ord, r, k, b, rfl, hR, hK, hn, ok, hb, hW, hM, hbd, kk⟩ := h
    refine ⟨_, pss_cons (ps_if (pt_val (C8.pe_mt0 cC hr (by decide) (pv 1))) (pss_one (ps_ret (pe_gi T.n_CORRUPTED))) pss_nil)
      (pss_cons (ps_set (i := 2) sc_Receiver_receive_frame.nd rfl (.inl rfl) (pe_op op_sub (pe_op op_add (pe_fld (pv 0) rfl) (pe_fld (pv 0) rfl)) pe_int))
      (pss_cons (ps_set (i := 3) sc_Receiver_receive_frame.nd rfl (.inl rfl) (C8.pe_c cM hr (by decide) (by rfl) (pa_cons (pe_ix ix_list (pe_fld (pv 1) rfl) pe_int (fun _ _ => rfl)) (pa_cons (pe_fld (pv 0) rfl) (pa_cons (pe_fld (pv 0) rfl) (pa_cons (pv 2) pa_nil))))))
      (pss_cons (ps_if (PW.pt (pw_or (pt_cmpR op_isN (pv 3) pe_non (nomark _)) (pw_or (pt_cmp (pc_din (hu_of hr) (pv 3) (pe_fld (pv 0) rfl))) (pw_or1 (pt_cmpR op_eq (pe_ln T.b_len (pe_fld (pv 1) rfl)) pe_int (nomark _)))))) (pss_one (ps_ret (pe_gi T.n_IGNORED))) pss_nil)
      (pss_cons (ps_dput (hu_of hr) (pe_fld (pv 0) rfl) (pv 3) (pe_slice sl_list (pe_fld (pv 1) rfl) (po_some pe_int) po_none) rfl)
      (pss_cons (ps_if (pt_not (pt_val (pe_fld (pv 0) rfl))) (pss_one (ps_expr (C8.pe_mt cD hr (by decide) (pv 0) (pa_cons (pv 3) pa_nil)))) pss_nil)
      (pss_cons (ps_expr (C8.pe_mt0 cP hr (by decide) (pv 0)))
      (pss_one (ps_ret (pe_gi T.n_ACCEPTED))))))))), ?_⟩
    obtain ⟨dp, fp, p1, p2⟩ := hK
    -- if packet.is_corrupted()
    refine x_meth (x_v 1) p1.2 nm_Packet_is_corrupted x_nil ⟨q, dp, fp, k.fs, k.ck, .int k.ser, rfl, p1.2, .of p2.2, by omega, fun H1 sm => ⟨_, rfl, ?_⟩⟩
    have mv1 : Mv (Part i 4) g H g H1 := Mv.same sm
    have hR1 : RcAt C g H1 i a W M ord r := hR.mv (S := fun _ => False) (Mv.same sm) (fun _ z => z) (fun z => z)
    refine if_c (fun e => ?_) (fun e => ?_)
    · rw [Bool.not_eq_true'] at e
      refine y_ret x_c ?_
      have := kk g H1 mv1
      rw [e] at this
      exact this hR1
    · rw [Bool.not_eq_false'] at e
      rw [e] at kk
      have kk' : ∀ g' H', Mv (Part i 4) g H g' H' → RcAt C g' H' i a W M ord (r.recv W M ord k.fs).1 → Q (.int ((r.recv W M ord k.fs).2 : Nat)) H' := kk
      clear kk
      dsimp only [tNext]
      have P1 := sm _ _ p1.2
      have P2 := sm _ _ p2.2
      have hR1' := hR1
      obtain ⟨dx, d, l, kvs, ps, aA, aD, aL, hkc, hRv, hP⟩ := hR1'
      have fx := x_fld (K := K) (σ := [some (V.ref a), some (V.ref q), none, none]) (x_v 0) aA.2 cl (no_Receiver_lowest_missing T) lk_Receiver_lowest_missing
      -- highest
      refine y_asg (x_i0 (x_i0 (x_fld (x_v 0) aA.2 cl (no_Receiver_lowest_missing T) lk_Receiver_lowest_missing) (x_fld (x_v 0) aA.2 cl (no_Receiver_window_size T) lk_Receiver_window_size)) x_c) ?_
      -- number
      obtain ⟨f0, fr, ef⟩ : ∃ f0 fr, k.fs = f0 :: fr := by
        cases e : k.fs with
        | nil =>
          rw [e] at hn
          exact absurd hn.1 (by decide)
        | cons a b => exact ⟨a, b, rfl⟩
      have h0 : (k.fs.map V.int)[0]? = some (V.int f0) := by rw [ef]; rfl
      have hx := ok.x
      refine x_call (x_cons (x_ix (n := 0) (x_fld (x_v 1) P1 clP (no_Packet_fields T) lk_Packet_fields) x_c (.of P2) h0) (x_cons (x_fld (x_v 0) aA.2 cl (no_Receiver_modulus T) lk_Receiver_modulus) (x_cons (x_fld (x_v 0) aA.2 cl (no_Receiver_lowest_missing T) lk_Receiver_lowest_missing) (x_cons (x_v 2) x_nil)))) ⟨f0, _, M, r.x, W, rfl, hM, by omega, by omega, by omega, ?_⟩
      have er : r.recv W M ord k.fs = match numMeant f0 M r.x W with
        | none => (r, 1)
        | some n => if ((r.rcv n).isSome || k.fs.length == 1) = true then (r, 1) else (Rc.pass ord W (r.put ord n (k.fs.drop 1)), 2) := by
        unfold Rc.recv
        rw [ef]
        rfl
      cases en : numMeant f0 M r.x W with
      | none =>
        rw [en] at er
        have er' : r.recv W M ord k.fs = (r, 1) := er
        rw [er'] at kk'
        refine y_if (x_orT (x_test (x_isN (x := .non) (x_v 3) x_c))) (fun _ => y_ret x_c (kk' g H1 mv1 hR1)) (fun z => Bool.noConfusion z)
      | some n =>
        rw [en] at er
        obtain ⟨m1, m2, _⟩ := numMeant_some en
        have er' : r.recv W M ord k.fs = if ((r.rcv n).isSome || k.fs.length == 1) = true then (r, 1) else (Rc.pass ord W (r.put ord n (k.fs.drop 1)), 2) := er
        have tst : EtX (tOr (tTest (tOp (fun x y H Q => y = .non ∧ Q (.bl (decide (x = .non))) H) (tVar 3) (tC V.non))) (tOr (tB (tDIn (tVar 3) (tFld K (tVar 0) "received"))) (tTest (tOp rEq (tCB (rLn K) (tCons (tFld K (tVar 1) "fields") tNil)) (tC (V.int 1))))))
            [some (V.ref a), some (V.ref q), some (V.int ((r.x : Int) + (W : Int) - 1)), some (V.int n)] H1 (false || ((r.rcv n).isSome || decide ((k.fs.length : Int) = 1))) := by
          refine x_or (x_test (x_isNf (x_v 3) x_c)) fun _ => x_or (x_B (x_is (x_din (x_v 3) (x_fld (x_v 0) aA.2 cl (no_Receiver_received T) lk_Receiver_received) aD.2) (congrArg V.bl (hRv.isSome n)))) fun _ => x_test (x_is (x_eqI (x_len (x_fld (x_v 1) P1 clP (no_Packet_fields T) lk_Packet_fields) (.of P2)) x_c) ?_)
          rw [List.length_map]
        have elen : decide ((k.fs.length : Int) = 1) = (k.fs.length == 1) := by
          by_cases z : k.fs.length = 1
          · rw [z]
            rfl
          · rw [decide_eq_false (by omega), beq_eq_false_iff_ne.mpr z]
        rw [elen, Bool.false_or] at tst
        refine y_if tst (fun z => ?_) (fun z => ?_)
        · rw [if_pos z] at er'
          rw [er'] at kk'
          exact y_ret x_c (kk' g H1 mv1 hR1)
        · have z' : ¬ ((r.rcv n).isSome || k.fs.length == 1) = true := by rw [z]; exact Bool.false_ne_true
          rw [if_neg z'] at er'
          rw [er'] at kk'
          dsimp only [tNext]
          -- self.received[number] = packet.fields[1:]
          refine ⟨_, rfl, q, C.Packet, dp, _, _, rfl, P1, clP, no_Packet_fields T, lk_Packet_fields, 1, rfl, fp, k.fs.map V.int, rfl, .of P2, fun p np => ?_⟩
          have s2 : Same H1 (upd H1 p (.lst (cutV (k.fs.map V.int) (some 1) none))) := same_new np
          have hit : cutV (k.fs.map V.int) (some 1) none = (k.fs.drop 1).map V.int := by rw [cut_one, List.map_drop]
          rw [hit] at s2 ⊢
          refine ⟨_, rfl, a, C.Receiver, dx, _, _, rfl, s2 _ _ aA.2, cl, no_Receiver_received T, lk_Receiver_received, _, rfl, d, _, rfl, DPut.k (k := .inl (n : Int)) (s2 _ _ aD.2) ?_, ?_⟩
          · have := ok.cnt
            exact Nat.lt_of_le_of_lt (by omega : kvs.length ≤ 9000000) (by decide)
          have mv3 : Mv (Part i 4) g H (tagAt g p imm) (upd (upd H1 p (.lst ((k.fs.drop 1).map V.int))) d (.dK (putK kvs (.inl (n : Int)) (.ref p)))) := by
            refine mv1.trans ((Mv.sameTag s2 np imm).trans (Mv.set (s2 _ _ aD.2) ?_))
            rw [tag_ne (ne_of_none aD.2 np), aD.1]
            exact ⟨rfl, rfl⟩
          have npd : p ≠ d := fun z => by rw [z, aD.2] at np; cases np
          have mvd : Mv (fun r => r = (i, 4, 1)) g H1 (tagAt g p imm) (upd (upd H1 p (.lst ((k.fs.drop 1).map V.int))) d (.dK (putK kvs (.inl (n : Int)) (.ref p)))) := by
            refine (Mv.sameTag s2 np imm).trans (Mv.set (s2 _ _ aD.2) ?_)
            rw [tag_ne (ne_of_none aD.2 np), aD.1]
          have ni : ¬ imm = ((i, 4, 1) : Role) := fun z => by cases congrArg (fun r : Role => r.2.1) z
          have gd : tagAt g p imm d = (i, 4, 1) := (tag_ne (ne_of_none aD.2 np)).trans aD.1
          have hR3 : RcAt C (tagAt g p imm) (upd (upd H1 p (.lst ((k.fs.drop 1).map V.int))) d (.dK (putK kvs (.inl (n : Int)) (.ref p)))) i a W M ord { r with rcv := setO r.rcv n (k.fs.drop 1), cnt := r.cnt + 1 } := by
            refine ⟨dx, d, l, _, ps, aA.mv mvd (role_ne (by omega)), ⟨gd, upd_same⟩, aL.mv mvd (role_ne (by omega)), ?_, RcvAt.put (hRv.mv mvd ni) ⟨tag_same, ?_⟩, Paired.mapP hP fun q x y => y.mv mvd ni⟩
            · have := length_putK kvs (.inl (n : Int)) (.ref p)
              show _ ≤ r.cnt + 1
              omega
            · rw [upd_ne npd, upd_same]
          have hb3 : ∀ m, (setO r.rcv n (k.fs.drop 1) m).isSome = true → m < r.x + W := fun m h => by
            unfold setO at h
            by_cases y : m = n
            · omega
            · rw [if_neg y] at h
              exact hbd m h
          have hs3 : setO r.rcv n (k.fs.drop 1) n = some (k.fs.drop 1) := if_pos rfl
          have hdel := ok.del
          have fin : ∀ g4 H4, Mv (Part i 4) g H g4 H4 → RcAt C g4 H4 i a W M ord (r.put ord n (k.fs.drop 1)) → tSeq (tDrop (tMeth C.Receiver "pass_received" (spPass C) [] C8.E0 (tVar 0) tNil)) (tRet (tC (V.int 2))) { nx := fun x H' => Q V.non H', rt := Q } [some (V.ref a), some (V.ref q), some (V.int ((r.x : Int) + (W : Int) - 1)), some (V.int n)] H4 := fun g4 H4 mv4 hR4 => by
            have hR4' := hR4
            obtain ⟨dx4, d4, l4, kvs4, ps4, bA, _⟩ := hR4'
            refine y_drop (x_meth (x_v 0) bA.2 nm_Receiver_pass_received x_nil ⟨g4, i, a, W, M, ord, _, rfl, hR4, ?_, hb3, fun g5 H5 mv5 hR5 => ?_⟩)
            · have : (r.put ord n (k.fs.drop 1)).del.length ≤ r.del.length + 1 := by
                show (if ord = true then r.del else r.del ++ [(n, k.fs.drop 1)]).length ≤ _
                split
                · exact Nat.le_succ _
                · rw [List.length_append]
                  exact Nat.le_refl _
              omega
            · dsimp only
              exact y_ret x_c (kk' g5 H5 (mv4.trans mv5) hR5)
          have hR3' := hR3
          obtain ⟨dx3, d3, l3, kvs3, ps3, bA, _⟩ := hR3'
          refine y_if (x_not (x_B (x_fld (x_v 0) bA.2 cl (no_Receiver_ordered T) lk_Receiver_ordered))) (fun eo => ?_) (fun eo => ?_)
          · rw [Bool.not_eq_true'] at eo
            refine y_drop (x_meth (x_v 0) bA.2 nm_Receiver_deliver (x_cons (x_v 3) x_nil) ⟨_, i, a, W, M, ord, _, n, k.fs.drop 1, rfl, hR3, by show r.del.length < 10000000; omega, hs3, fun g4 H4 mv4 hR4 => ?_⟩)
            refine fin g4 H4 (mv3.trans mv4) ?_
            unfold Rc.put
            rw [eo, if_neg Bool.false_ne_true, ← eo]
            exact hR4
          · rw [Bool.not_eq_false'] at eo
            refine fin _ _ mv3 ?_
            unfold Rc.put
            rw [if_pos eo]
            exact hR3
end
end W170

namespace W170
open PySem PySem.Spec PyProof.Rows L2
/-! ### the sender as it lies in the heap: of link i, part 3 -/
def SetAt (kvs : List (Key × V)) (f : Nat → Bool) : Prop := ∀ n : Nat, (valV kvs (.inl (n : Int))).isSome = f n
def SnAt (C : Cs) (g : Gh) (H : Hp) (i : Nat) (a fa : Addr) (W M : Nat) (s : Sn) (b : Nat) : Prop := ∃ dx l da dd ps ka kd, At g H (i, 3, 0) a (.ins C.Sender dx (F_Sender (.int W) (.int M) (.ref fa) (.ref l) (.int s.base) (.int s.next) (.ref da) (.ref dd))) ∧
  At g H (i, 3, 1) l (.lst (ps.map V.ref)) ∧ At g H (i, 3, 2) da (.dK ka) ∧ At g H (i, 3, 3) dd (.dK kd) ∧ Paired (ItAt g H) ps s.items ∧ SetAt ka s.acked ∧ SetAt kd s.dropped ∧ ka.length ≤ b ∧ kd.length ≤ b
structure SnOk (s : Sn) : Prop where
  len : ∀ it ∈ s.items, 1 ≤ it.length ∧ it.length ≤ 20
  few : s.items.length ≤ 120
  le : s.base ≤ s.next
  nx : s.next ≤ s.items.length
  ackin : ∀ n, s.acked n = true → n < s.next
theorem SnAt.mv {C : Cs} {S : Role → Prop} {g g' : Gh} {H H' : Hp} {i : Nat} {a fa : Addr} {W M : Nat} {s : Sn} {b : Nat} (h : SnAt C g H i a fa W M s b) (m : Mv S g H g' H') (hs : ∀ n, ¬ S (i, 3, n)) (hi : ¬ S imm) : SnAt C g' H' i a fa W M s b := by
  obtain ⟨dx, l, da, dd, ps, ka, kd, a1, a2, a3, a4, a5, a6⟩ := h
  exact ⟨dx, l, da, dd, ps, ka, kd, a1.mv m (hs _), a2.mv m (hs _), a3.mv m (hs _), a4.mv m (hs _), Paired.mapP a5 fun t x p => At.mv p m hi, a6⟩
theorem SetAt.put {kvs : List (Key × V)} {f : Nat → Bool} (h : SetAt kvs f) (n : Nat) (v : V) : SetAt (putK kvs (.inl (n : Int)) v) (setN f n) := fun m => by
  rw [valV_put]
  unfold setN
  by_cases z : m = n
  · rw [if_pos (by rw [z]), if_pos z]
    rfl
  · rw [if_neg (fun q => z (by have := Sum.inl.inj q; omega)), if_neg z]
    exact h m
theorem part_ne {i j j' n : Nat} (h : j' ≠ j) : ¬ Part i j (i, j', n) := fun z => h z.2
section
variable {P : Program} {w : World} {K : PySem.W.Frag} {mg : Str → Option Value} {base : Heap} {C : Cs}
def spAckF (C : Cs) : Sp := fun vs H Q _ => ∃ (g : Gh) (i : Nat) (a : Addr) (W M : Nat) (ord : Bool) (r : Rc), vs = [.ref a] ∧ RcAt C g H i a W M ord r ∧ W ≤ 8 ∧ 0 < M ∧ ∀ H' p, Same H H' → H p = none → H' p = some (.lst ((r.ack W M).map V.int)) → Q (.ref p) H'
theorem m_ack_fields (T : Txt K mg C) : C8.Met P w K mg base 1 C.Receiver "ack_fields" (spAckF C) [] := by
  have cl := T.k_Receiver.cl
  refine df_m T.m_Receiver_ack_fields sc_Receiver_ack_fields (fun vs H Q E h => ?_) (fun f cdv A outer s H vs Q E hr h => ?_)
  · obtain ⟨_, _, _, _, _, _, _, rfl, _⟩ := h
    rfl
  · obtain ⟨g, i, a, W, M, ord, r, rfl, ⟨dx, d, l, kvs, ps, aA, aD, aL, hk, hRv, hP⟩, hW, hM, k⟩ := h
    refine ⟨_, pss_cons (ps_set (i := 1) sc_Receiver_ack_fields.nd rfl (.inl rfl) (pe_lst (pa_cons (pe_op op_mod (pe_fld (pv 0) rfl) (pe_fld (pv 0) rfl)) pa_nil)))
      (pss_cons (ps_for PassesOwn.never rfl (pi_range2 (by rfl) T.b_range (pa_cons pe_int (pa_cons (pe_fld (pv 0) rfl) pa_nil))) (pg_name (i := 2) sc_Receiver_ack_fields.nd rfl (.inl rfl))
        (pss_one (ps_expr (pe_bm PySem.F.plainAttrs_list PySem.F.slot_list_append PySem.F.type_list_append mt_append (pv 1) (pa_cons (pe_ifExp (pt_cmp (pc_din (hu_of hr) (pe_op op_add (pe_fld (pv 0) rfl) (pv 2)) (pe_fld (pv 0) rfl))) pe_int pe_int) pa_nil)))))
      (pss_one (ps_ret (pv 1)))), ?_⟩
    refine y_asgl (x_cons (x_iC (x_fld (x_v 0) aA.2 cl (no_Receiver_lowest_missing T) lk_Receiver_lowest_missing) (x_fld (x_v 0) aA.2 cl (no_Receiver_modulus T) lk_Receiver_modulus) (by show (0 : Int) < M; omega)) x_nil) (by show 1 ≤ 1000; decide) fun o no => ?_
    have s1 : Same H (upd H o (.lst [.int ((r.x : Int) % (M : Int))])) := same_new no
    refine ⟨_, rfl, a, C.Receiver, dx, _, _, rfl, s1 _ _ aA.2, cl, no_Receiver_window_size T, lk_Receiver_window_size, _, _, rfl, ⟨by decide, by decide, by omega, by omega⟩, for_range (lo := 1) (n := ((W : Int) - 1).toNat)
      (fun n σ H' => (∃ y, σ = [some (.ref a), some (.ref o), y]) ∧ Same H H' ∧ H' o = some (.lst (((((r.x % M : Nat) : Int)) :: (List.range n).map fun i => if (r.rcv (r.x + 1 + i)).isSome = true then (1 : Int) else 0).map V.int))) ⟨⟨_, rfl⟩, s1, ?_⟩ ?_ ?_⟩
    · rw [upd_same]
      show some (HO.lst [V.int ((r.x : Int) % (M : Int))]) = some (HO.lst [V.int ((r.x % M : Nat) : Int)])
      rw [Int.natCast_emod]
    · rintro n σ H' hn ⟨⟨y, rfl⟩, sm, hO⟩
      have A2 := sm _ _ aA.2
      have D2 := sm _ _ aD.2
      have en : (r.x : Int) + (1 + (n : Int)) = ((r.x + 1 + n : Nat) : Int) := by omega
      refine y_app (x_v 1) hO ?_
      have ev : EvX (tIf (tB (tDIn (tOp (rI0 fun i j => V.int (i + j)) (tFld K (tVar 0) "lowest_missing") (tVar 2)) (tFld K (tVar 0) "received"))) (tC (V.int 1)) (tC (V.int 0))) [some (V.ref a), some (V.ref o), some (V.int (1 + (n : Int)))] H' (V.int (if (r.rcv (r.x + 1 + n)).isSome = true then (1 : Int) else 0)) := by
        refine x_if (x_B (x_is (x_din (x_i0 (x_fld (x_v 0) A2 cl (no_Receiver_lowest_missing T) lk_Receiver_lowest_missing) (x_v 2)) (x_fld (x_v 0) A2 cl (no_Receiver_received T) lk_Receiver_received) D2) (congrArg V.bl (by rw [en])))) (fun e => ?_) (fun e => ?_)
        · rw [if_pos ((hRv.isSome _).symm.trans e)]
          exact x_c
        · rw [(hRv.isSome (r.x + 1 + n)).symm.trans e, if_neg Bool.false_ne_true]
          exact x_c
      refine ev _ ⟨o, _, _, rfl, rfl, hO, ?_, ?_⟩
      · rw [List.length_map, List.length_cons, List.length_map, List.length_range]
        exact Nat.lt_of_le_of_lt (by omega : _ ≤ 1000) (by decide)
      · refine ⟨⟨_, rfl⟩, same_upd sm no, ?_⟩
        rw [upd_same, opn_succ, ← List.cons_append, List.map_append]
        rfl
    · rintro σ H' ⟨⟨y, rfl⟩, sm, hO⟩
      dsimp only
      refine y_ret (x_v 1) (k H' o sm no ?_)
      rw [hO]
      unfold Rc.ack
      rw [show ((W : Int) - 1).toNat = W - 1 by omega]
def spSnInit (C : Cs) : Sp := fun vs H Q _ => ∃ (p dx fa : Addr) (W M : Nat), vs = [.ref p, .int W, .int M, .ref fa] ∧ H p = some (.ins C.Sender dx []) ∧
  ∀ (H' : Hp) (l da dd : Addr), H l = none → H da = none → H dd = none → l ≠ da → l ≠ dd → da ≠ dd → H' p = some (.ins C.Sender dx (F_Sender (.int W) (.int M) (.ref fa) (.ref l) (.int 0) (.int 0) (.ref da) (.ref dd))) → H' l = some (.lst []) → H' da = some (.dK []) → H' dd = some (.dK []) → (∀ b o, H b = some o → b ≠ p → H' b = some o) → Q .non H'
theorem k_Sender (T : Txt K mg C) : C8.Mak P w K mg base 1 "Sender" C.Sender (spSnInit C) [] := by
  have cl := T.k_Sender.cl
  refine df_c T.k_Sender sc_Sender_init (fun vs H Q E h => ?_) (fun f cdv A outer s H vs Q E hr h => ?_)
  · obtain ⟨_, _, _, _, _, rfl, _⟩ := h
    rfl
  · obtain ⟨p, dx, fa, W, M, rfl, hp, k⟩ := h
    refine ⟨_, pss_cons (ps_fld (pv 0) (pv 1) rfl) (pss_cons (ps_fld (pv 0) (pv 2) rfl) (pss_cons (ps_fld (pv 0) (pv 3) rfl) (pss_cons (ps_fld (pv 0) (pe_lst pa_nil) rfl) (pss_cons (ps_fld (pv 0) pe_int rfl) (pss_cons (ps_fld (pv 0) pe_int rfl) (pss_cons (ps_fld (pv 0) pe_dnewK rfl) (pss_one (ps_fld (pv 0) pe_dnewK rfl)))))))), ?_⟩
    refine y_fld (x_v 1) (x_v 0) hp cl (no_Sender_window_size T) (lt_nil (by decide)) ?_
    refine y_fld (x_v 2) (x_v 0) upd_same cl (no_Sender_modulus T) (lt_put (n := 999) (lt_nil (by decide))) ?_
    refine y_fld (x_v 3) (x_v 0) upd_same cl (no_Sender_frames T) (lt_put (n := 999) (lt_put (n := 998) (lt_nil (by decide)))) ?_
    generalize h3 : upd (upd (upd H p _) p _) p _ = H3
    have hp3 : H3 p = some (.ins C.Sender dx (putF "frames" (.ref fa) (putF "modulus" (.int M) (putF "window_size" (.int W) [])))) := by rw [← h3, upd_same]
    have k3 : ∀ b, b ≠ p → H3 b = H b := fun b hb => by rw [← h3, upd_ne hb, upd_ne hb, upd_ne hb]
    have back : ∀ b, H3 b = none → H b = none := fun b hb => by
      rw [← k3 b (fun z => by rw [z, hp3] at hb; cases hb)]
      exact hb
    clear h3
    refine ⟨Nat.zero_le _, fun l nl => ?_⟩
    have npl : p ≠ l := ne_of_none hp3 nl
    refine ⟨_, rfl, p, C.Sender, dx, _, rfl, (upd_ne npl).trans hp3, cl, no_Sender_all_items T, lt_put (n := 999) (lt_put (n := 998) (lt_put (n := 997) (lt_nil (by decide)))), ?_⟩
    refine y_fld x_c (x_v 0) upd_same cl (no_Sender_base T) (lt_put (n := 999) (lt_put (n := 998) (lt_put (n := 997) (lt_put (n := 996) (lt_nil (by decide)))))) ?_
    refine y_fld x_c (x_v 0) upd_same cl (no_Sender_next_number T) (lt_put (n := 999) (lt_put (n := 998) (lt_put (n := 997) (lt_put (n := 996) (lt_put (n := 995) (lt_nil (by decide))))))) ?_
    generalize h4 : upd (upd (upd (upd H3 l (.lst [])) p _) p _) p _ = H4
    have hp4 : H4 p = some (.ins C.Sender dx (putF "next_number" (.int 0) (putF "base" (.int 0) (putF "all_items" (.ref l) (putF "frames" (.ref fa) (putF "modulus" (.int M) (putF "window_size" (.int W) []))))))) := by rw [← h4, upd_same]
    have hl4 : H4 l = some (.lst []) := by rw [← h4, upd_ne (Ne.symm npl), upd_ne (Ne.symm npl), upd_ne (Ne.symm npl), upd_same]
    have k4 : ∀ b, b ≠ p → b ≠ l → H4 b = H b := fun b hb hb2 => by rw [← h4, upd_ne hb, upd_ne hb, upd_ne hb, upd_ne hb2, k3 b hb]
    clear h4
    refine fun da nda => ?_
    have npa : p ≠ da := ne_of_none hp4 nda
    have nla : l ≠ da := ne_of_none hl4 nda
    refine ⟨_, rfl, p, C.Sender, dx, _, rfl, (upd_ne npa).trans hp4, cl, no_Sender_acknowledged T, lt_put (n := 999) (lt_put (n := 998) (lt_put (n := 997) (lt_put (n := 996) (lt_put (n := 995) (lt_put (n := 994) (lt_nil (by decide))))))), ?_⟩
    refine fun dd ndd => ?_
    have npd : p ≠ dd := ne_of_none upd_same ndd
    have nad : da ≠ dd := fun z => by
      rw [← z, upd_ne (Ne.symm npa), upd_same] at ndd
      cases ndd
    have nld : l ≠ dd := fun z => by
      rw [← z, upd_ne (Ne.symm npl), upd_ne nla, hl4] at ndd
      cases ndd
    refine ⟨_, rfl, p, C.Sender, dx, _, rfl, (upd_ne npd).trans upd_same, cl, no_Sender_dropped T, lt_put (n := 999) (lt_put (n := 998) (lt_put (n := 997) (lt_put (n := 996) (lt_put (n := 995) (lt_put (n := 994) (lt_put (n := 993) (lt_nil (by decide)))))))), ?_⟩
    have nda0 : H da = none := by rw [← k4 da (Ne.symm npa) (Ne.symm nla)]; exact nda
    have ndd0 : H dd = none := by
      rw [upd_ne (Ne.symm npd), upd_ne (Ne.symm nad), k4 dd (Ne.symm npd) (Ne.symm nld)] at ndd
      exact ndd
    refine k _ l da dd (back l nl) nda0 ndd0 nla nld nad ?_ ?_ ?_ ?_ fun b o e hb => ?_
    · rw [upd_same, new_Sender]
    · rw [upd_ne (Ne.symm npl), upd_ne nld, upd_ne (Ne.symm npl), upd_ne nla]
      exact hl4
    · rw [upd_ne (Ne.symm npa), upd_ne nad, upd_ne (Ne.symm npa), upd_same]
    · rw [upd_ne (Ne.symm npd), upd_same]
    · rw [upd_ne hb, upd_ne (ne_of_none e ndd0), upd_ne hb, upd_ne (ne_of_none e nda0), k4 b hb (ne_of_none e (back l nl))]
      exact e
end
end W170

namespace W170
open PySem PySem.Spec PyProof.Rows L2
def Sn.inW (s : Sn) (z : Int) : Bool := decide ((s.base : Int) ≤ z) && decide (z < (s.next : Int))
def Sn.awaits (s : Sn) (z : Int) : Bool := s.inW z && !(s.acked z.toNat)
section
variable {P : Program} {w : World} {K : PySem.W.Frag} {mg : Str → Option Value} {base : Heap} {C : Cs}
def spAddItem (C : Cs) : Sp := fun vs H Q _ => ∃ (g : Gh) (i : Nat) (a fa p : Addr) (W M : Nat) (s : Sn) (b : Nat) (it : List Int), vs = [.ref a, .ref p] ∧ SnAt C g H i a fa W M s b ∧ ItAt g H p it ∧ s.items.length ≤ 1000 ∧
  ∀ H', Mv (fun r => r = (i, 3, 1)) g H g H' → SnAt C g H' i a fa W M { s with items := s.items ++ [it] } b → Q .non H'
theorem m_add_item (T : Txt K mg C) : C8.Met P w K mg base 1 C.Sender "add_item" (spAddItem C) [] := by
  have cl := T.k_Sender.cl
  refine df_m T.m_Sender_add_item sc_Sender_add_item (fun vs H Q E h => ?_) (fun f cdv A outer s H vs Q E hr h => ?_)
  · obtain ⟨_, _, _, _, _, _, _, _, _, _, rfl, _⟩ := h
    rfl
  · obtain ⟨g, i, a, fa, p, W, M, s, b, it, rfl, ⟨dx, l, da, dd, ps, ka, kd, aA, aL, aD, aE, hP, hA, hD, ba, bd⟩, hp, hn, k⟩ := h
    refine ⟨_, pss_one (ps_expr (pe_bm PySem.F.plainAttrs_list PySem.F.slot_list_append PySem.F.type_list_append mt_append (pe_fld (pv 0) rfl) (pa_cons (pv 1) pa_nil))), ?_⟩
    refine y_app (x_fld (x_v 0) aA.2 cl (no_Sender_all_items T) lk_Sender_all_items) aL.2 (x_v 1 rfl _ ⟨l, _, _, rfl, rfl, aL.2, ?_, ?_⟩)
    · rw [List.length_map, Paired.length hP]
      exact Nat.lt_of_le_of_lt hn (by decide)
    have mv : Mv (fun r => r = (i, 3, 1)) g H g (upd H l (.lst (ps.map V.ref ++ [.ref p]))) := Mv.set aL.2 aL.1
    have ni : ¬ imm = ((i, 3, 1) : Role) := fun z => by cases congrArg (fun r : Role => r.2.1) z
    refine k _ mv ⟨dx, l, da, dd, ps ++ [p], ka, kd, aA.mv mv (role_ne (by omega)), ⟨aL.1, ?_⟩, aD.mv mv (role_ne (by omega)), aE.mv mv (role_ne (by omega)), Paired.snoc (hp.mv mv ni) (Paired.mapP hP fun q x y => y.mv mv ni), hA, hD, ba, bd⟩
    rw [upd_same, List.map_append]
    rfl
def spHasC (C : Cs) : Sp := fun vs H Q _ => ∃ (g : Gh) (i : Nat) (a fa : Addr) (W M : Nat) (s : Sn) (b n : Nat), vs = [.ref a, .int n] ∧ SnAt C g H i a fa W M s b ∧ Q (.bl (!(s.dropped n))) H
theorem m_has_content (T : Txt K mg C) : C8.Met P w K mg base 1 C.Sender "has_content" (spHasC C) [] := by
  have cl := T.k_Sender.cl
  refine df_m T.m_Sender_has_content sc_Sender_has_content (fun vs H Q E h => ?_) (fun f cdv A outer s H vs Q E hr h => ?_)
  · obtain ⟨_, _, _, _, _, _, _, _, _, rfl, _⟩ := h
    rfl
  · obtain ⟨g, i, a, fa, W, M, s, b, n, rfl, ⟨dx, l, da, dd, ps, ka, kd, aA, aL, aD, aE, hP, hA, hD, ba, bd⟩, k⟩ := h
    refine ⟨_, pss_one (ps_ret (pe_cmp (pc_dnotin (hu_of hr) (pv 1) (pe_fld (pv 0) rfl)))), ?_⟩
    refine y_ret (x_dnin (x_v 1) (x_fld (x_v 0) aA.2 cl (no_Sender_dropped T) lk_Sender_dropped) aE.2) ?_
    rw [hD n]
    exact k
def spInW (C : Cs) : Sp := fun vs H Q _ => ∃ (g : Gh) (i : Nat) (a fa : Addr) (W M : Nat) (s : Sn) (b : Nat) (z : Int), vs = [.ref a, .int z] ∧ SnAt C g H i a fa W M s b ∧ Q (.bl (s.inW z)) H
theorem m_in_window (T : Txt K mg C) : C8.Met P w K mg base 1 C.Sender "in_window" (spInW C) [] := by
  have cl := T.k_Sender.cl
  refine df_m T.m_Sender_in_window sc_Sender_in_window (fun vs H Q E h => ?_) (fun f cdv A outer s H vs Q E hr h => ?_)
  · obtain ⟨_, _, _, _, _, _, _, _, _, rfl, _⟩ := h
    rfl
  · obtain ⟨g, i, a, fa, W, M, s, b, z, rfl, ⟨dx, l, da, dd, ps, ka, kd, aA, _⟩, k⟩ := h
    refine ⟨_, pss_one (ps_ret (pe_chain op_le op_lt (pe_fld (pv 0) rfl) (pv 1) (pe_fld (pv 0) rfl))), ?_⟩
    exact y_ret (x_chain (x_fld (x_v 0) aA.2 cl (no_Sender_base T) lk_Sender_base) (x_v 1) r_le (x_fld (x_v 0) aA.2 cl (no_Sender_next_number T) lk_Sender_next_number) r_lt) k
def spAwaits (C : Cs) : Sp := fun vs H Q _ => ∃ (g : Gh) (i : Nat) (a fa : Addr) (W M : Nat) (s : Sn) (b : Nat) (z : Int), vs = [.ref a, .int z] ∧ SnAt C g H i a fa W M s b ∧ Q (.bl (s.awaits z)) H
theorem m_awaits (T : Txt K mg C) : C8.Met P w K mg base 2 C.Sender "awaits_acknowledgement" (spAwaits C) [] := by
  have cW : C8.Met P w K mg base 1 C.Sender "in_window" (spInW C) [] := m_in_window T
  have cl := T.k_Sender.cl
  refine df_m T.m_Sender_awaits_acknowledgement sc_Sender_awaits_acknowledgement (fun vs H Q E h => ?_) (fun f cdv A outer s H vs Q E hr h => ?_)
  · obtain ⟨_, _, _, _, _, _, _, _, _, rfl, _⟩ := h
    rfl
  · obtain ⟨g, i, a, fa, W, M, s, b, z, rfl, hS, k⟩ := h
    refine ⟨_, pss_one (ps_ret (pe_and (C8.pe_mt cW hr (by decide) (pv 0) (pa_cons (pv 1) pa_nil)) (pe_one (pe_cmp (pc_dnotin (hu_of hr) (pv 1) (pe_fld (pv 0) rfl)))))), ?_⟩
    have hS' := hS
    obtain ⟨dx, l, da, dd, ps, ka, kd, aA, aL, aD, aE, hP, hA, hD, ba, bd⟩ := hS'
    refine y_ret (x_andV (b := !(s.acked z.toNat)) (fun Q' q' => x_meth (x_v 0) aA.2 nm_Sender_in_window (x_cons (x_v 1) x_nil) ⟨g, i, a, fa, W, M, s, b, z, rfl, hS, q'⟩) fun e => ?_) k
    have e1 := of_decide_eq_true (Bool.and_eq_true_iff.mp e).1
    refine x_is (x_dnin (x_v 1) (x_fld (x_v 0) aA.2 cl (no_Sender_acknowledged T) lk_Sender_acknowledged) aD.2) ?_
    rw [← hA z.toNat, show ((z.toNat : Nat) : Int) = z by omega]
def spSendFr (C : Cs) : Sp := fun vs H Q _ => ∃ (g : Gh) (i : Nat) (a fa : Addr) (W M : Nat) (s : Sn) (b n : Nat) (c : Ch), vs = [.ref a, .int n] ∧ SnAt C g H i a fa W M s b ∧ SnOk s ∧ n < s.items.length ∧ 0 < M ∧ ChAt C g H i 1 fa c ∧ ChOk c ∧
  ∀ g' H', Mv (Part i 1) g H g' H' → ChAt C g' H' i 1 fa (c.send (s.frame M n)) → Q .non H'
theorem frame_len {s : Sn} (o : SnOk s) (M n : Nat) : 1 ≤ (s.frame M n).length ∧ (s.frame M n).length ≤ 100 := by
  unfold Sn.frame Sn.content
  rw [List.length_cons]
  split
  · exact ⟨by omega, by show 0 + 1 ≤ 100; decide⟩
  · rw [List.getD_eq_getElem?_getD]
    cases e : s.items[n]? with
    | none => exact ⟨by omega, by show 0 + 1 ≤ 100; decide⟩
    | some it =>
      have := (o.len it (List.mem_of_getElem? e)).2
      show 1 ≤ it.length + 1 ∧ it.length + 1 ≤ 100
      omega
theorem m_send_frame (T : Txt K mg C) : C8.Met P w K mg base 5 C.Sender "send_frame" (spSendFr C) [] := by
  have cS : C8.Met P w K mg base 4 C.Channel "send" (spChSend C) [] := m_Channel_send T
  have cH : C8.Met P w K mg base 1 C.Sender "has_content" (spHasC C) [] := m_has_content T
  have cl := T.k_Sender.cl
  refine df_m T.m_Sender_send_frame sc_Sender_send_frame (fun vs H Q E h => ?_) (fun f cdv A outer s H vs Q E hr h => ?_)
  · obtain ⟨_, _, _, _, _, _, _, _, _, _, rfl, _⟩ := h
    rfl
  · obtain ⟨g, i, a, fa, W, M, s, b, n, c, rfl, hS, ok, hn, hM, hC, okc, k⟩ := h
    refine ⟨_, pss_cons (ps_set (i := 2) sc_Sender_send_frame.nd rfl (.inl rfl) (pe_lst (pa_cons (pe_op op_mod (pv 1) (pe_fld (pv 0) rfl)) pa_nil)))
      (pss_cons (ps_if (pt_val (C8.pe_mt cH hr (by decide) (pv 0) (pa_cons (pv 1) pa_nil))) (pss_one (ps_expr (pe_bm PySem.F.plainAttrs_list PySem.F.slot_list_extend PySem.F.type_list_extend mt_extend (pv 2) (pa_cons (pe_ix ix_list (pe_fld (pv 0) rfl) (pv 1) (fun _ _ => rfl)) pa_nil)))) pss_nil)
      (pss_one (ps_expr (C8.pe_mt cS hr (by decide) (pe_fld (pv 0) rfl) (pa_cons (pv 2) pa_nil))))), ?_⟩
    have hS' := hS
    obtain ⟨dx, l, da, dd, ps, ka, kd, aA, aL, aD, aE, hP, hA, hD, ba, bd⟩ := hS'
    refine y_asgl (x_cons (x_iC (x_v 1) (x_fld (x_v 0) aA.2 cl (no_Sender_modulus T) lk_Sender_modulus) (by show (0 : Int) < M; omega)) x_nil) (by show 1 ≤ 1000; decide) fun o no => ?_
    -- the tag of the new list: the fields of the packet that is made
    have mv1 : Mv (Part i 1) g H (tagAt g o (i, 1, 2 * c.sent + 3)) (upd H o (.lst [.int ((n : Int) % (M : Int))])) := Mv.sameTag (same_new no) no _
    have hS1 : SnAt C (tagAt g o (i, 1, 2 * c.sent + 3)) (upd H o (.lst [.int ((n : Int) % (M : Int))])) i a fa W M s b := hS.mv mv1 (fun _ => part_ne (by decide)) (part_imm (by decide))
    have hC1 : ChAt C (tagAt g o (i, 1, 2 * c.sent + 3)) (upd H o (.lst [.int ((n : Int) % (M : Int))])) i 1 fa c := hC.mv (S := fun _ => False) (Mv.sameTag (same_new no) no _) fun _ z => z
    have fin : ∀ H2 fs, Mv (Part i 1) g H (tagAt g o (i, 1, 2 * c.sent + 3)) H2 → ChAt C (tagAt g o (i, 1, 2 * c.sent + 3)) H2 i 1 fa c → fs = s.frame M n → H2 o = some (.lst (fs.map V.int)) →
        tDrop (tMeth C.Channel "send" (spChSend C) [] C8.E0 (tFld K (tVar 0) "frames") (tCons (tVar 2) tNil)) { nx := fun x H' => Q V.non H', rt := Q } [some (V.ref a), some (V.int n), some (V.ref o)] H2 := fun H2 fs mv2 hC2 ef h2 => by
      have hS2 : SnAt C (tagAt g o (i, 1, 2 * c.sent + 3)) H2 i a fa W M s b := hS.mv mv2 (fun _ => part_ne (by decide)) (part_imm (by decide))
      obtain ⟨dx2, l2, da2, dd2, ps2, ka2, kd2, bA, _⟩ := hS2
      have hC2' := hC2
      obtain ⟨dxc, lc, qs, cA, _⟩ := hC2'
      refine y_drop (x_meth (x_fld (x_v 0) bA.2 cl (no_Sender_frames T) lk_Sender_frames) cA.2 nm_Channel_send (x_cons (x_v 2) x_nil) ⟨_, i, 1, fa, o, c, fs, rfl, hC2, okc, ⟨tag_same, h2⟩, ?_, fun g3 H3 mv3 hC3 _ => ?_⟩)
      · rw [ef]
        exact (frame_len ok M n).2
      · rw [ef] at hC3
        exact k g3 H3 (mv2.trans mv3) hC3
    have hS1' := hS1
    obtain ⟨dx1, l1, da1, dd1, ps1, ka1, kd1, bA, bL, bD, bE, hP1, _⟩ := hS1'
    refine y_if (x_B fun Q' q' => x_meth (x_v 0) bA.2 nm_Sender_has_content (x_cons (x_v 1) x_nil) ⟨_, i, a, fa, W, M, s, b, n, rfl, hS1, q'⟩) (fun e => ?_) (fun e => ?_)
    · rw [Bool.not_eq_true'] at e
      obtain ⟨it, hit⟩ : ∃ it, s.items[n]? = some it := ⟨_, List.getElem?_eq_getElem hn⟩
      obtain ⟨p, hp, pa⟩ := Paired.at hP1 hit
      have li := (ok.len it (List.mem_of_getElem? hit)).2
      have npo : p ≠ o := fun z => by
        obtain ⟨p0, hp0, pa0⟩ := Paired.at hP hit
        have e1 := pa.1
        rw [z, tag_same] at e1
        cases congrArg (fun r : Role => r.2.1) e1
      refine ⟨_, rfl, .inl ⟨rfl, _, SqL.of upd_same⟩, _, rfl, a, C.Sender, dx1, _, _, rfl, bA.2, cl, no_Sender_all_items T, lk_Sender_all_items, _, rfl, l1, _, _, _, rfl, rfl, .of bL.2, atI_nat (get_map hp), o, p, _, _, rfl, rfl, upd_same, pa.2, ?_, ?_⟩
      · rw [List.length_map]
        exact Nat.le_trans (by show 1 + it.length ≤ 1000; omega) (by decide)
      have mv2 : Mv (Part i 1) (tagAt g o (i, 1, 2 * c.sent + 3)) (upd H o (.lst [.int ((n : Int) % (M : Int))])) (tagAt g o (i, 1, 2 * c.sent + 3)) (upd (upd H o (.lst [.int ((n : Int) % (M : Int))])) o (.lst ([.int ((n : Int) % (M : Int))] ++ it.map V.int))) := Mv.set upd_same (by rw [tag_same]; exact ⟨rfl, rfl⟩)
      have mv2' : Mv (fun r => r = (i, 1, 2 * c.sent + 3)) (tagAt g o (i, 1, 2 * c.sent + 3)) (upd H o (.lst [.int ((n : Int) % (M : Int))])) (tagAt g o (i, 1, 2 * c.sent + 3)) (upd (upd H o (.lst [.int ((n : Int) % (M : Int))])) o (.lst ([.int ((n : Int) % (M : Int))] ++ it.map V.int))) := Mv.set upd_same tag_same
      refine fin _ (((n % M : Nat) : Int) :: it) (mv1.trans mv2) ?_ ?_ ?_
      · obtain ⟨dxc, lc, qs, cA, cL, cP⟩ := hC1
        refine ⟨dxc, lc, qs, cA.mv mv2' (role_ne (by omega)), cL.mv mv2' (role_ne (by omega)), ?_⟩
        refine paired_all2 cP fun m q kk hq hk pk => ?_
        have := okc.lt kk (List.mem_of_getElem? hk)
        exact pk.mv mv2' (role_ne (by omega)) (role_ne (by omega))
      · unfold Sn.frame Sn.content
        rw [e, if_neg Bool.false_ne_true, List.getD_eq_getElem?_getD, hit]
        rfl
      · rw [upd_same, List.map_cons, Int.natCast_emod]
        rfl
    · rw [Bool.not_eq_false'] at e
      dsimp only [tNext]
      refine fin _ [((n % M : Nat) : Int)] mv1 hC1 ?_ ?_
      · unfold Sn.frame Sn.content
        rw [e, if_pos rfl]
      · rw [upd_same, List.map_cons, Int.natCast_emod]
        rfl
end
end W170

namespace W170
open PySem PySem.Spec PyProof.Rows L2
theorem y_dput {σ : L2.St} {H : Hp} {D : Ends} {td tk tv : TE} {d : Addr} {kvs : List (Key × V)} {n : Int} {v : V} (hv : EvX tv σ H v) (hd : EvX td σ H (.ref d)) (hk : EvX tk σ H (.int n)) (h : H d = some (.dK kvs)) (len : kvs.length < sizeLine)
    (q : D.nx σ (upd H d (.dK (putK kvs (.inl n) v)))) : sDPut td tk tv D σ H := hv _ (hd _ (hk _ ⟨d, _, rfl, DPut.k (k := .inl n) h len, q⟩))
/-- a loop over enumerate, the list standing still -/
theorem for_en {K : PySem.W.Frag} {l : Addr} {xs : List V} {g : TG} {tb : TS} {D : Ends} {σ : L2.St} {H : Hp} (Pv : Nat → L2.St → Hp → Prop) (h0 : Pv 0 σ H) (hl : ∀ i σ H, Pv i σ H → SqL K H l xs)
    (hs : ∀ (i : Nat) (x : V) (q : Addr) (σ : L2.St) (H : Hp), xs[i]? = some x → Pv i σ H → H q = none → g (.ref q) σ (upd H q (.tup [.int (i : Nat), x])) fun σ2 H2 => tb { D with nx := Pv (i + 1), ct := Pv (i + 1), bk := D.nx } σ2 H2) (hd : ∀ σ H, Pv xs.length σ H → D.nx σ H) :
    ∃ W : Nat → Nat → L2.St → Hp → Prop, (∃ m, W 0 m σ H) ∧ ∀ i m σ H, W i m σ H →
      ((Ite K l).stop i H ∧ D.nx σ H) ∨ ((Ite K l).go i H ∧ ∃ N : L2.St → Hp → Prop, (∀ σ' H', N σ' H' → ∃ m', m' < m ∧ W (i + 1) m' σ' H') ∧ ∀ v H', (Ite K l).yld i H v H' → g v σ H' fun σ2 H2 => tb { D with nx := N, ct := N, bk := D.nx } σ2 H2) := by
  refine ⟨fun i m σ H => i + m = xs.length ∧ Pv i σ H, ⟨xs.length, by omega, h0⟩, fun i m σ H w => ?_⟩
  obtain ⟨im, p⟩ := w
  rcases Nat.lt_or_ge i xs.length with lt | ge
  · have hx := List.getElem?_eq_getElem lt
    refine .inr ⟨⟨xs, _, hl i σ H p, hx⟩, Pv (i + 1), fun σ' H' p' => ⟨m - 1, by omega, by omega, p'⟩, fun v H' y => ?_⟩
    obtain ⟨q, z, rfl, nq, rfl, same⟩ := y
    exact hs i z q σ H (same xs (hl i σ H p)) p nq
  · obtain rfl : i = xs.length := by omega
    exact .inl ⟨⟨xs, hl _ σ H p, Nat.le_refl _⟩, hd σ H p⟩
/-- the numbers acknowledged when the fields up to i are gone through -/
def ackUpTo (s : Sn) (fs : List Int) (y i : Nat) : Nat → Bool := fun n => (s.acked n || (decide (s.base ≤ n) && decide (n < y))) || (decide (y < n) && decide (n < s.next) && decide (n < y + i) && (fs.getD (n - y) 0 == 1))
theorem ack_zero (s : Sn) (fs : List Int) (y n : Nat) : ackUpTo s fs y 0 n = (s.acked n || (decide (s.base ≤ n) && decide (n < y))) := by
  unfold ackUpTo
  cases h : decide (y < n) with
  | false => simp
  | true =>
    have := of_decide_eq_true h
    rw [decide_eq_false (show ¬ n < y + 0 by omega)]
    simp
theorem ack_end (s : Sn) (fs : List Int) (y n : Nat) : ackUpTo s fs y fs.length n = ackAll s fs y n := by
  unfold ackUpTo ackAll
  by_cases c : y < n
  · by_cases z : n < y + fs.length
    · rw [decide_eq_true z, Bool.and_true]
    · have e : fs.getD (n - y) 0 = 0 := by
        rw [List.getD_eq_getElem?_getD, List.getElem?_eq_none (by omega)]
        rfl
      rw [e]
      simp
  · rw [decide_eq_false c]
    simp
theorem ack_step_no {s : Sn} {fs : List Int} {y i : Nat} (h : (decide ((i : Int) > 0) && (decide (fs.getD i 0 = 1) && decide (y + i < s.next))) = false) (n : Nat) : ackUpTo s fs y (i + 1) n = ackUpTo s fs y i n := by
  unfold ackUpTo
  congr 1
  by_cases c : n = y + i
  · subst c
    rw [show y + i - y = i by omega]
    by_cases z : 0 < i
    · rw [decide_eq_true (show (i : Int) > 0 by omega), Bool.true_and] at h
      have e : (decide (y + i < s.next) && (fs.getD i 0 == 1)) = false := by
        rw [Bool.and_comm]
        by_cases q : fs.getD i 0 = 1
        · rw [decide_eq_true q] at h
          rw [q]
          simpa using h
        · rw [beq_eq_false_iff_ne.mpr q]
          rfl
      rw [Bool.and_eq_false_iff] at e
      rcases e with e | e
      · rw [e]
        simp
      · rw [e]
        simp
    · rw [decide_eq_false (show ¬ y < y + i by omega)]
      simp
  · by_cases z : n < y + i
    · rw [decide_eq_true z, decide_eq_true (show n < y + (i + 1) by omega)]
    · rw [decide_eq_false z, decide_eq_false (show ¬ n < y + (i + 1) by omega)]
theorem ack_step_yes {s : Sn} {fs : List Int} {y i : Nat} (h0 : 0 < i) (h1 : fs.getD i 0 = 1) (h2 : y + i < s.next) (n : Nat) : setN (ackUpTo s fs y i) (y + i) n = ackUpTo s fs y (i + 1) n := by
  unfold setN ackUpTo
  by_cases c : n = y + i
  · subst c
    rw [if_pos rfl, show y + i - y = i by omega, h1, decide_eq_true (show y < y + i by omega), decide_eq_true h2, decide_eq_true (show y + i < y + (i + 1) by omega)]
    simp
  · rw [if_neg c]
    congr 1
    by_cases z : n < y + i
    · rw [decide_eq_true z, decide_eq_true (show n < y + (i + 1) by omega)]
    · rw [decide_eq_false z, decide_eq_false (show ¬ n < y + (i + 1) by omega)]
def Sn.recvA (M : Nat) (s : Sn) (fs : List Int) (ok : Bool) : Sn × Nat := if ok = false then (s, 0) else s.recvAck M fs
section
variable {P : Program} {w : World} {K : PySem.W.Frag} {mg : Str → Option Value} {base : Heap} {C : Cs}
def spRAck (K : PySem.W.Frag) (C : Cs) : Sp := fun vs H Q _ => ∃ (g : Gh) (i : Nat) (a fa q : Addr) (W M : Nat) (s : Sn) (b : Nat) (k : Pk), vs = [.ref a, .ref q] ∧ SnAt C g H i a fa W M s b ∧ SnOk s ∧ PkAt C g H i 2 q k ∧ (1 ≤ k.fs.length ∧ k.fs.length ≤ 100) ∧ 0 < M ∧ b ≤ 9000000 ∧
  ∀ H', Mv (fun r => r = (i, 3, 2)) g H g H' → SnAt C g H' i a fa W M (s.recvA M k.fs (decide (k.ck = Vbtwad.checksumOf k.fs))).1 (b + 300) → Q (.int ((s.recvA M k.fs (decide (k.ck = Vbtwad.checksumOf k.fs))).2 : Nat)) H'
theorem SnAt.more {g : Gh} {H : Hp} {i : Nat} {a fa : Addr} {W M : Nat} {s : Sn} {b b' : Nat} (h : SnAt C g H i a fa W M s b) (l : b ≤ b') : SnAt C g H i a fa W M s b' := by
  obtain ⟨dx, l1, da, dd, ps, ka, kd, aA, aL, aD, aE, hP, hA, hD, ba, bd⟩ := h
  exact ⟨dx, l1, da, dd, ps, ka, kd, aA, aL, aD, aE, hP, hA, hD, by omega, by omega⟩
theorem m_receive_ack (T : Txt K mg C) : C8.Met P w K mg base 3 C.Sender "receive_ack" (spRAck K C) [] := by
  have cC : C8.Met P w K mg base 2 C.Packet "is_corrupted" (spPkCor K C) [] := m_is_corrupted T
  have cM : C8.Cal P w K mg base 1 "number_meant" spMeant [] := c_number_meant T
  have cW : C8.Met P w K mg base 1 C.Sender "in_window" (spInW C) [] := m_in_window T
  have cl := T.k_Sender.cl
  have clP := T.k_Packet.cl
  refine df_m T.m_Sender_receive_ack sc_Sender_receive_ack (fun vs H Q E h => ?_) (fun f cdv A outer s H vs Q E hr h => ?_)
  · obtain ⟨_, _, _, _, _, _, _, _, _, _, rfl, _⟩ := h
    rfl
  · obtain ⟨g, i, a, fa, q, W, M, s, b, k, rfl, hS, ok, hK, hn, hM, hb, kk⟩ := h
    refine ⟨_, pss_cons (ps_if (pt_val (C8.pe_mt0 cC hr (by decide) (pv 1))) (pss_one (ps_ret (pe_gi T.n_CORRUPTED))) pss_nil)
      (pss_cons (ps_set (i := 2) sc_Sender_receive_ack.nd rfl (.inl rfl) (C8.pe_c cM hr (by decide) (by rfl) (pa_cons (pe_ix ix_list (pe_fld (pv 1) rfl) pe_int (fun _ _ => rfl)) (pa_cons (pe_fld (pv 0) rfl) (pa_cons (pe_fld (pv 0) rfl) (pa_cons (pe_fld (pv 0) rfl) pa_nil))))))
      (pss_cons (ps_if (pt_cmpR op_isN (pv 2) pe_non (nomark _)) (pss_one (ps_ret (pe_gi T.n_IGNORED))) pss_nil)
      (pss_cons (ps_for PassesOwn.never rfl (pi_range2 (by rfl) T.b_range (pa_cons (pe_fld (pv 0) rfl) (pa_cons (pv 2) pa_nil))) (pg_name (i := 3) sc_Sender_receive_ack.nd rfl (.inl rfl)) (pss_one (ps_dput (hu_of hr) (pe_fld (pv 0) rfl) (pv 3) pe_bl rfl)))
      (pss_cons (ps_for PassesOwn.never rfl (pi_enum (by rfl) T.b_enumerate (pa_cons (pe_fld (pv 1) rfl) pa_nil)) (pg_tup rfl (pgs_cons (pg_name (i := 4) sc_Sender_receive_ack.nd rfl (.inl rfl)) (pgs_cons (pg_name (i := 5) sc_Sender_receive_ack.nd rfl (.inl rfl)) pgs_nil)))
        (pss_one (ps_if (PW.pt (pw_and (pt_cmpR op_gt (pv 4) pe_int (nomark _)) (pw_and (pt_cmpR op_eq (pv 5) pe_int (nomark _)) (pw_and1 (pt_val (C8.pe_mt cW hr (by decide) (pv 0) (pa_cons (pe_op op_add (pv 2) (pv 4)) pa_nil)))))))
          (pss_one (ps_dput (hu_of hr) (pe_fld (pv 0) rfl) (pe_op op_add (pv 2) (pv 4)) pe_bl rfl)) pss_nil)))
      (pss_one (ps_ret (pe_gi T.n_ACCEPTED))))))), ?_⟩
    obtain ⟨dp, fp, p1, p2⟩ := hK
    refine x_meth (x_v 1) p1.2 nm_Packet_is_corrupted x_nil ⟨q, dp, fp, k.fs, k.ck, .int k.ser, rfl, p1.2, .of p2.2, by omega, fun H1 sm => ⟨_, rfl, ?_⟩⟩
    have mv1 : ∀ {S : Role → Prop}, Mv S g H g H1 := Mv.same sm
    have hS1 : SnAt C g H1 i a fa W M s b := hS.mv (S := fun _ => False) mv1 (fun _ z => z) (fun z => z)
    refine if_c (fun e => ?_) (fun e => ?_)
    · rw [Bool.not_eq_true'] at e
      refine y_ret x_c ?_
      have := kk H1 mv1
      rw [e] at this
      exact this (hS1.more (by omega))
    · rw [Bool.not_eq_false'] at e
      rw [e] at kk
      have kk' : ∀ H', Mv (fun r => r = (i, 3, 2)) g H g H' → SnAt C g H' i a fa W M (s.recvAck M k.fs).1 (b + 300) → Q (.int ((s.recvAck M k.fs).2 : Nat)) H' := kk
      clear kk
      dsimp only [tNext]
      have P1 := sm _ _ p1.2
      have P2 := sm _ _ p2.2
      have hS1' := hS1
      obtain ⟨dx, l, da, dd, ps, ka, kd, aA, aL, aD, aE, hP, hA, hD, ba, bd⟩ := hS1'
      obtain ⟨f0, fr, ef⟩ : ∃ f0 fr, k.fs = f0 :: fr := by
        cases e : k.fs with
        | nil =>
          rw [e] at hn
          exact absurd hn.1 (by decide)
        | cons a b => exact ⟨a, b, rfl⟩
      have h0 : (k.fs.map V.int)[0]? = some (V.int f0) := by rw [ef]; rfl
      have hle := ok.le
      have hnx := ok.nx
      have hfew := ok.few
      refine x_call (x_cons (x_ix (n := 0) (x_fld (x_v 1) P1 clP (no_Packet_fields T) lk_Packet_fields) x_c (.of P2) h0) (x_cons (x_fld (x_v 0) aA.2 cl (no_Sender_modulus T) lk_Sender_modulus) (x_cons (x_fld (x_v 0) aA.2 cl (no_Sender_base T) lk_Sender_base) (x_cons (x_fld (x_v 0) aA.2 cl (no_Sender_next_number T) lk_Sender_next_number) x_nil)))) ⟨f0, _, M, s.base, s.next + 1 - s.base, rfl, hM, by omega, by omega, by omega, ?_⟩
      have er : s.recvAck M k.fs = match numMeant f0 M s.base (s.next + 1 - s.base) with
        | none => (s, 1)
        | some y => ({ s with acked := ackAll s k.fs y }, 2) := by
        unfold Sn.recvAck
        rw [ef]
        rfl
      cases en : numMeant f0 M s.base (s.next + 1 - s.base) with
      | none =>
        rw [en] at er
        have er' : s.recvAck M k.fs = (s, 1) := er
        rw [er'] at kk'
        refine y_if (x_test (x_isN (x := .non) (x_v 2) x_c)) (fun _ => y_ret x_c (kk' H1 mv1 (hS1.more (by omega)))) (fun z => Bool.noConfusion z)
      | some y =>
        rw [en] at er
        obtain ⟨m1, m2, _⟩ := numMeant_some en
        have er' : s.recvAck M k.fs = ({ s with acked := ackAll s k.fs y }, 2) := er
        rw [er'] at kk'
        have ni : ¬ imm = ((i, 3, 2) : Role) := fun z => by cases congrArg (fun r : Role => r.2.1) z
        -- the sender from its parts, the dict changed
        have mk : ∀ {H' kv f b'}, Mv (fun r => r = (i, 3, 2)) g H1 g H' → H' da = some (.dK kv) → SetAt kv f → kv.length ≤ b' → b ≤ b' → SnAt C g H' i a fa W M { s with acked := f } b' := fun mv hd hs h1 h2 =>
          ⟨dx, l, da, dd, ps, _, kd, aA.mv mv (role_ne (by omega)), aL.mv mv (role_ne (by omega)), ⟨aD.1, hd⟩, aE.mv mv (role_ne (by omega)), Paired.mapP hP fun q x p => p.mv mv ni, hs, hD, h1, by omega⟩
        refine y_if (x_test (x_isNf (x_v 2) x_c)) (fun z => Bool.noConfusion z) (fun _ => ?_)
        dsimp only [tNext]
        refine ⟨_, rfl, a, C.Sender, dx, _, _, rfl, aA.2, cl, no_Sender_base T, lk_Sender_base, _, rfl, _, _, rfl, ⟨by omega, by omega, by omega, by omega⟩, for_range (lo := (s.base : Int)) (n := ((y : Int) - (s.base : Int)).toNat)
          (fun j σ H' => ∃ (y3 : Option V) (kv : List (Key × V)), σ = [some (.ref a), some (.ref q), some (.int y), y3, none, none] ∧ Mv (fun r => r = (i, 3, 2)) g H1 g H' ∧ H' da = some (.dK kv) ∧ SetAt kv (fun n => s.acked n || (decide (s.base ≤ n) && decide (n < s.base + j))) ∧ kv.length ≤ b + j)
          ⟨_, ka, rfl, Mv.refl, aD.2, fun n => ?_, by omega⟩ ?_ ?_⟩
        · rw [hA n]
          show s.acked n = (s.acked n || (decide (s.base ≤ n) && decide (n < s.base + 0)))
          cases h : decide (s.base ≤ n) with
          | false => simp
          | true =>
            have := of_decide_eq_true h
            rw [decide_eq_false (show ¬ n < s.base + 0 by omega)]
            simp
        · rintro j σ H' hj ⟨y3, kv, rfl, mv, hd, hs, hlen⟩
          have A2 := aA.mv mv (role_ne (by omega))
          refine y_dput x_c (x_fld (x_v 0) A2.2 cl (no_Sender_acknowledged T) lk_Sender_acknowledged) (x_v 3) hd (Nat.lt_of_le_of_lt (by omega : kv.length ≤ 9001000) (by decide)) ?_
          have ek : (s.base : Int) + (j : Int) = ((s.base + j : Nat) : Int) := by omega
          refine ⟨_, _, rfl, mv.trans (Mv.set hd aD.1), upd_same, fun n => ?_, ?_⟩
          · rw [ek, SetAt.put hs (s.base + j) (V.bl true) n]
            unfold setN
            dsimp only
            by_cases c : n = s.base + j
            · rw [if_pos c, decide_eq_true (show s.base ≤ n by omega), decide_eq_true (show n < s.base + (j + 1) by omega)]
              simp
            · rw [if_neg c]
              congr 1
              by_cases z : n < s.base + j
              · rw [decide_eq_true z, decide_eq_true (show n < s.base + (j + 1) by omega)]
              · rw [decide_eq_false z, decide_eq_false (show ¬ n < s.base + (j + 1) by omega)]
          · have := length_putK kv (.inl ((s.base : Int) + (j : Int))) (V.bl true)
            omega
        · rintro σ H2 ⟨y3, kv, rfl, mv, hd, hs, hlen⟩
          have ej : s.base + ((y : Int) - (s.base : Int)).toNat = y := by omega
          rw [ej] at hs
          have K1 : H2 q = some _ := mv.keep _ _ P1 (fun z => by rw [p1.1] at z; cases congrArg (fun r : Role => r.2.1) z)
          have K2 : H2 fp = some _ := mv.keep _ _ P2 (fun z => by rw [p2.1] at z; cases congrArg (fun r : Role => r.2.1) z)
          refine ⟨_, rfl, q, C.Packet, dp, _, _, rfl, K1, clP, no_Packet_fields T, lk_Packet_fields, fp, _, rfl, .of K2, for_en (K := K) (xs := k.fs.map V.int)
            (fun j σ H' => ∃ (y4 y5 : Option V) (kv : List (Key × V)), σ = [some (.ref a), some (.ref q), some (.int y), y3, y4, y5] ∧ Mv (fun r => r = (i, 3, 2)) g H1 g H' ∧ H' da = some (.dK kv) ∧ SetAt kv (ackUpTo s k.fs y j) ∧ kv.length ≤ b + 130 + j)
            ⟨_, _, kv, rfl, mv, hd, fun n => ?_, by omega⟩ (fun j σ H' h => ?_) ?_ ?_⟩
          · rw [hs n, ack_zero]
          · obtain ⟨_, _, _, _, mv', _⟩ := h
            exact .of (mv'.keep _ _ P2 (fun z => by rw [p2.1] at z; cases congrArg (fun r : Role => r.2.1) z))
          · rintro j x t σ H' hx ⟨y4, y5, kv', rfl, mv', hd', hs', hlen'⟩ nt
            obtain ⟨fv, hfv, rfl⟩ := map_get hx
            have hj : j < k.fs.length := (List.getElem?_eq_some_iff.mp hfv).1
            refine ⟨t, _, rfl, .of upd_same, rfl, _, _, rfl, _, _, rfl, rfl, ?_⟩
            have mv3 : Mv (fun r => r = (i, 3, 2)) g H1 g (upd H' t (.tup [.int (j : Nat), .int fv])) := mv'.trans (Mv.new' nt)
            have hd3 : (upd H' t (.tup [.int (j : Nat), .int fv])) da = some (.dK kv') := (upd_ne (ne_of_none hd' nt)).trans hd'
            have hS3 := mk mv3 hd3 hs' (b' := b + 300) (by omega) (by omega)
            have eg : k.fs.getD j 0 = fv := by
              rw [List.getD_eq_getElem?_getD, hfv]
              rfl
            have A3 := aA.mv mv3 (role_ne (by omega))
            have eW : Sn.inW { s with acked := ackUpTo s k.fs y j } ((y : Int) + (j : Int)) = decide (y + j < s.next) := by
              unfold Sn.inW
              rw [decide_eq_true (show ((s.base : Nat) : Int) ≤ (y : Int) + (j : Int) by omega), Bool.true_and]
              by_cases z : y + j < s.next
              · rw [decide_eq_true z, decide_eq_true (show (y : Int) + (j : Int) < (s.next : Int) by omega)]
              · rw [decide_eq_false z, decide_eq_false (show ¬ (y : Int) + (j : Int) < (s.next : Int) by omega)]
            have tst : EtX (tAnd (tTest (tOp (rI0 fun i j => V.bl (decide (j < i))) (tVar 4) (tC (V.int 0)))) (tAnd (tTest (tOp rEq (tVar 5) (tC (V.int 1)))) (tB (tMeth C.Sender "in_window" (spInW C) [] C8.E0 (tVar 0) (tCons (tOp (rI0 fun i j => V.int (i + j)) (tVar 2) (tVar 4)) tNil)))))
                [some (.ref a), some (.ref q), some (.int y), y3, some (.int (j : Nat)), some (.int fv)] (upd H' t (.tup [.int (j : Nat), .int fv])) (decide ((j : Int) > 0) && (decide (fv = 1) && decide (y + j < s.next))) :=
              x_and (x_test (x_i0 (x_v 4) x_c)) fun _ => x_and (x_test (x_eqI (x_v 5) x_c)) fun _ => x_B fun Q' q' => x_meth (x_v 0) A3.2 nm_Sender_in_window (x_cons (x_i0 (x_v 2) (x_v 4)) x_nil) ⟨g, i, a, fa, W, M, _, _, _, rfl, hS3, by rw [eW]; exact q'⟩
            refine y_if (t_is tst (b := decide ((j : Int) > 0) && (decide (k.fs.getD j 0 = 1) && decide (y + j < s.next))) (by rw [eg])) (fun z => ?_) (fun z => ?_)
            · obtain ⟨z1, z2⟩ := Bool.and_eq_true_iff.mp z
              obtain ⟨z3, z4⟩ := Bool.and_eq_true_iff.mp z2
              have j0 := of_decide_eq_true z1
              have j1 := of_decide_eq_true z3
              have j2 := of_decide_eq_true z4
              refine y_dput x_c (x_fld (x_v 0) A3.2 cl (no_Sender_acknowledged T) lk_Sender_acknowledged) (x_i0 (x_v 2) (x_v 4)) hd3 (Nat.lt_of_le_of_lt (by omega : kv'.length ≤ 9001000) (by decide)) ?_
              refine ⟨_, _, _, rfl, mv3.trans (Mv.set hd3 aD.1), upd_same, fun n => ?_, ?_⟩
              · rw [show (y : Int) + (j : Int) = ((y + j : Nat) : Int) by omega, SetAt.put hs' (y + j) (V.bl true) n]
                exact ack_step_yes (by omega) j1 j2 n
              · have := length_putK kv' (.inl ((y : Int) + (j : Int))) (V.bl true)
                omega
            · refine ⟨_, _, kv', rfl, mv3, hd3, fun n => ?_, by omega⟩
              rw [ack_step_no z n]
              exact hs' n
          · rintro σ H3 ⟨y4, y5, kv', rfl, mv', hd', hs', hlen'⟩
            rw [List.length_map] at hs' hlen'
            dsimp only
            refine y_ret x_c (kk' H3 (mv1.trans mv') (mk mv' hd' (fun n => ?_) (by omega) (by omega)))
            rw [hs' n, ack_end]
end
end W170

namespace W170
open PySem PySem.Spec PyProof.Rows L2
theorem adv_one {m : Nat} {s : Sn} (h : s.acked s.base = true) : Sn.adv (m + 1) s = Sn.adv m { s with base := s.base + 1 } := if_pos h
section
variable {P : Program} {w : World} {K : PySem.W.Frag} {mg : Str → Option Value} {base : Heap} {C : Cs}
def spAdv (C : Cs) : Sp := fun vs H Q _ => ∃ (g : Gh) (i : Nat) (a fa : Addr) (W M : Nat) (s : Sn) (b : Nat), vs = [.ref a] ∧ SnAt C g H i a fa W M s b ∧ SnOk s ∧
  ∀ H', Mv (fun r => r = (i, 3, 0)) g H g H' → SnAt C g H' i a fa W M (Sn.adv (s.next - s.base) s) b → Q .non H'
theorem m_advance (T : Txt K mg C) : C8.Met P w K mg base 1 C.Sender "advance_base" (spAdv C) [] := by
  have cl := T.k_Sender.cl
  refine df_m T.m_Sender_advance_base sc_Sender_advance_base (fun vs H Q E h => ?_) (fun f cdv A outer s H vs Q E hr h => ?_)
  · obtain ⟨_, _, _, _, _, _, _, _, rfl, _⟩ := h
    rfl
  · obtain ⟨g, i, a, fa, W, M, s, b, rfl, hS, ok, k⟩ := h
    refine ⟨_, pss_one (ps_while PassesOwn.never (pt_cmp (pc_din (hu_of hr) (pe_fld (pv 0) rfl) (pe_fld (pv 0) rfl))) (pss_one (ps_fldaug (pv 0) pe_int in_add))), ?_⟩
    have hle := ok.le
    refine ⟨fun m σ H1 => ∃ s1, σ = [some (.ref a)] ∧ Mv (fun r => r = (i, 3, 0)) g H g H1 ∧ SnAt C g H1 i a fa W M s1 b ∧ Sn.adv m s1 = Sn.adv (s.next - s.base) s ∧ s1 = { s with base := s1.base } ∧ s1.base + m = s.next, ⟨s.next - s.base, s, rfl, Mv.refl, hS, rfl, rfl, by omega⟩, ?_⟩
    rintro m σ H1 ⟨s1, rfl, mv, hS1, ea, es, em⟩
    have hS1' := hS1
    obtain ⟨dx, l, da, dd, ps, ka, kd, aA, aL, aD, aE, hP, hA, hD, ba, bd⟩ := hS1'
    refine x_B (x_is (x_din (x_fld (x_v 0) aA.2 cl (no_Sender_base T) lk_Sender_base) (x_fld (x_v 0) aA.2 cl (no_Sender_acknowledged T) lk_Sender_acknowledged) aD.2) (congrArg V.bl (hA s1.base))) _ ?_
    refine if_c (fun e => ?_) (fun e => ?_)
    · have e2 : s.acked s1.base = true := by
        rw [es] at e
        exact e
      have lt := ok.ackin _ e2
      obtain ⟨m', rfl⟩ : ∃ m', m = m' + 1 := ⟨m - 1, by omega⟩
      refine ⟨_, fun σ2 H2 h => ⟨m', Nat.lt_succ_self _, h⟩, ?_⟩
      refine y_aug (x_v 0) aA.2 cl (no_Sender_base T) lk_Sender_base x_c len_Sender ?_
      rw [put_Sender_base]
      have mv3 : Mv (fun r => r = (i, 3, 0)) g H1 g (upd H1 a (.ins C.Sender dx (F_Sender (.int W) (.int M) (.ref fa) (.ref l) (.int ((s1.base : Int) + 1)) (.int s1.next) (.ref da) (.ref dd)))) := Mv.set aA.2 aA.1
      have ni : ¬ imm = ((i, 3, 0) : Role) := fun z => by cases congrArg (fun r : Role => r.2.1) z
      refine ⟨{ s1 with base := s1.base + 1 }, rfl, mv.trans mv3, ⟨dx, l, da, dd, ps, ka, kd, ⟨aA.1, upd_same⟩, aL.mv mv3 (role_ne (by omega)), aD.mv mv3 (role_ne (by omega)), aE.mv mv3 (role_ne (by omega)), Paired.mapP hP fun q x p => p.mv mv3 ni, hA, hD, ba, bd⟩, ?_, ?_, ?_⟩
      · rw [← adv_one e]
        exact ea
      · show ({ s1 with base := s1.base + 1 } : Sn) = { s with base := s1.base + 1 }
        rw [es]
      · show s1.base + 1 + m' = s.next
        omega
    · rw [adv_none s1 m e] at ea
      rw [ea] at hS1
      exact k H1 mv hS1
def spFill (C : Cs) : Sp := fun vs H Q _ => ∃ (g : Gh) (i : Nat) (a fa : Addr) (W M : Nat) (s : Sn) (b : Nat) (c : Ch), vs = [.ref a] ∧ SnAt C g H i a fa W M s b ∧ SnOk s ∧ 0 < M ∧ ChAt C g H i 1 fa c ∧ ChOk c ∧
  ∀ g' H', Mv (fun r => Part i 1 r ∨ r = (i, 3, 0)) g H g' H' → SnAt C g' H' i a fa W M (s.fill W M c).1 b → ChAt C g' H' i 1 fa (s.fill W M c).2 → Q (.int (s.room W : Nat)) H'
theorem m_fill (T : Txt K mg C) : C8.Met P w K mg base 6 C.Sender "fill_window" (spFill C) [] := by
  have cS : C8.Met P w K mg base 5 C.Sender "send_frame" (spSendFr C) [] := m_send_frame T
  have cl := T.k_Sender.cl
  refine df_m T.m_Sender_fill_window sc_Sender_fill_window (fun vs H Q E h => ?_) (fun f cdv A outer s H vs Q E hr h => ?_)
  · obtain ⟨_, _, _, _, _, _, _, _, _, rfl, _⟩ := h
    rfl
  · obtain ⟨g, i, a, fa, W, M, s, b, c, rfl, hS, ok, hM, hC, okc, k⟩ := h
    refine ⟨_, pss_cons (ps_set (i := 1) sc_Sender_fill_window.nd rfl (.inl rfl) (pe_fld (pv 0) rfl))
      (pss_cons (ps_set (i := 2) sc_Sender_fill_window.nd rfl (.inl rfl) (pe_callB (call_min2 rfl) (by rfl) T.b_min (by decide +kernel) (pa_cons (pe_op op_add (pe_fld (pv 0) rfl) (pe_fld (pv 0) rfl)) (pa_cons (pe_ln T.b_len (pe_fld (pv 0) rfl)) pa_nil))))
      (pss_cons (ps_while PassesOwn.never (pt_cmpR op_lt (pe_fld (pv 0) rfl) (pv 2) (nomark _))
        (pss_cons (ps_expr (C8.pe_mt cS hr (by decide) (pv 0) (pa_cons (pe_fld (pv 0) rfl) pa_nil)))
        (pss_one (ps_fldaug (pv 0) pe_int in_add))))
      (pss_one (ps_ret (pe_op op_sub (pe_fld (pv 0) rfl) (pv 1)))))), ?_⟩
    have hS' := hS
    obtain ⟨dx, l, da, dd, ps, ka, kd, aA, aL, aD, aE, hP, hA, hD, ba, bd⟩ := hS'
    have lps := Paired.length hP
    have hnx := ok.nx
    have hle := ok.le
    refine y_asg (x_fld (x_v 0) aA.2 cl (no_Sender_next_number T) lk_Sender_next_number) ?_
    have e1 : EvX (tOp (rI0 fun i j => V.int (i + j)) (tFld K (tVar 0) "base") (tFld K (tVar 0) "window_size")) [some (.ref a), some (.int s.next), none] H (.int ((s.base : Int) + (W : Int))) := x_i0 (x_fld (x_v 0) aA.2 cl (no_Sender_base T) lk_Sender_base) (x_fld (x_v 0) aA.2 cl (no_Sender_window_size T) lk_Sender_window_size)
    have e2 : EvX (tCB (rLn K) (tCons (tFld K (tVar 0) "all_items") tNil)) [some (.ref a), some (.int s.next), none] H (.int (ps.map V.ref).length) := x_len (x_fld (x_v 0) aA.2 cl (no_Sender_all_items T) lk_Sender_all_items) (.of aL.2)
    dsimp only [tSeq, tAsg, tCB, tCons, tNil, gName]
    refine e1 _ ?_
    refine x_fld (x_v 0) aA.2 cl (no_Sender_all_items T) lk_Sender_all_items _ ?_
    refine ⟨l, _, rfl, .inl (.of aL.2), _, _, rfl, ?_⟩
    rw [List.length_map, lps]
    generalize hend : (if (s.items.length : Int) < (s.base : Int) + (W : Int) then (s.items.length : Int) else (s.base : Int) + (W : Int)) = en
    have hroom : (s.next : Int) + (s.room W : Nat) = if en < (s.next : Int) then (s.next : Int) else en := by
      unfold Sn.room
      rw [← hend]
      by_cases z : (s.items.length : Int) < (s.base : Int) + (W : Int)
      · rw [if_pos z, if_neg (by omega)]
        omega
      · rw [if_neg z]
        by_cases y : (s.base : Int) + (W : Int) < (s.next : Int)
        · rw [if_pos y]
          omega
        · rw [if_neg y]
          omega
    have enle : en ≤ (s.items.length : Int) := by
      rw [← hend]
      split <;> omega
    refine ⟨fun m σ H1 => ∃ g1 s1 c1, σ = [some (.ref a), some (.int s.next), some (.int en)] ∧ Mv (fun r => Part i 1 r ∨ r = (i, 3, 0)) g H g1 H1 ∧ SnAt C g1 H1 i a fa W M s1 b ∧ ChAt C g1 H1 i 1 fa c1 ∧ ChOk c1 ∧ Sn.fillN M m s1 c1 = s.fill W M c ∧ s1 = { s with next := s1.next } ∧ s1.next + m = s.next + s.room W ∧ s.next ≤ s1.next,
      ⟨s.room W, g, s, c, rfl, Mv.refl, hS, hC, okc, rfl, rfl, rfl, Nat.le_refl _⟩, ?_⟩
    rintro m σ H1 ⟨g1, s1, c1, rfl, mv, hS1, hC1, okc1, ef, es, em, en1⟩
    have hS1' := hS1
    obtain ⟨dx1, l1, da1, dd1, ps1, ka1, kd1, bA, bL, bD, bE, hP1, hA1, hD1, ba1, bd1⟩ := hS1'
    have ei : s1.items = s.items := by rw [es]
    refine x_test (x_i0 (x_fld (x_v 0) bA.2 cl (no_Sender_next_number T) lk_Sender_next_number) (x_v 2)) _ ?_
    refine if_c (fun e => ?_) (fun e => ?_)
    · have lt := of_decide_eq_true e
      have nlt : s1.next < s.items.length := by omega
      obtain ⟨m', rfl⟩ : ∃ m', m = m' + 1 := ⟨m - 1, by
        rw [if_neg (by omega)] at hroom
        omega⟩
      have ok1 : SnOk s1 := by
        rw [es]
        exact ⟨ok.len, ok.few, Nat.le_trans ok.le en1, Nat.le_of_lt nlt, fun n h => Nat.lt_of_lt_of_le (ok.ackin n h) en1⟩
      refine ⟨_, fun σ2 H2 h => ⟨m', Nat.lt_succ_self _, h⟩, ?_⟩
      refine y_drop (x_meth (x_v 0) bA.2 nm_Sender_send_frame (x_cons (x_fld (x_v 0) bA.2 cl (no_Sender_next_number T) lk_Sender_next_number) x_nil) ⟨g1, i, a, fa, W, M, s1, b, s1.next, c1, rfl, hS1, ok1, by rw [ei]; exact nlt, hM, hC1, okc1, fun g2 H2 mv2 hC2 => ?_⟩)
      have hS2 : SnAt C g2 H2 i a fa W M s1 b := hS1.mv mv2 (fun _ => part_ne (by decide)) (part_imm (by decide))
      obtain ⟨dx2, l2, da2, dd2, ps2, ka2, kd2, cA, cL, cD, cE, hP2, hA2, hD2, ba2, bd2⟩ := hS2
      refine y_aug (x_v 0) cA.2 cl (no_Sender_next_number T) lk_Sender_next_number x_c len_Sender ?_
      rw [put_Sender_next_number]
      have mv3 : Mv (fun r => r = (i, 3, 0)) g2 H2 g2 (upd H2 a (.ins C.Sender dx2 (F_Sender (.int W) (.int M) (.ref fa) (.ref l2) (.int s1.base) (.int ((s1.next : Int) + 1)) (.ref da2) (.ref dd2)))) := Mv.set cA.2 cA.1
      have ni : ¬ imm = ((i, 3, 0) : Role) := fun z => by cases congrArg (fun r : Role => r.2.1) z
      refine ⟨g2, { s1 with next := s1.next + 1 }, c1.send (s1.frame M s1.next), rfl, mv.trans ((mv2.mono fun r z => .inl z).trans (mv3.mono fun r z => .inr z)), ⟨dx2, l2, da2, dd2, ps2, ka2, kd2, ⟨cA.1, upd_same⟩, cL.mv mv3 (role_ne (by omega)), cD.mv mv3 (role_ne (by omega)), cE.mv mv3 (role_ne (by omega)), Paired.mapP hP2 fun q x p => p.mv mv3 ni, hA2, hD2, ba2, bd2⟩, hC2.mv mv3 (fun n z => by cases congrArg (fun r : Role => r.2.1) z), okc1.send (frame_len ok1 M _), ?_, ?_, ?_, ?_⟩
      · exact ef
      · show ({ s1 with next := s1.next + 1 } : Sn) = { s with next := s1.next + 1 }
        rw [es]
      · show s1.next + 1 + m' = s.next + s.room W
        omega
      · show s.next ≤ s1.next + 1
        omega
    · have ge := of_decide_eq_false e
      obtain rfl : m = 0 := by
        by_cases z : en < (s.next : Int)
        · rw [if_pos z] at hroom
          omega
        · rw [if_neg z] at hroom
          omega
      have ef2 : s.fill W M c = (s1, c1) := ef.symm
      refine y_ret (x_is (x_i0 (x_fld (x_v 0) bA.2 cl (no_Sender_next_number T) lk_Sender_next_number) (x_v 1)) ?_) (k g1 H1 mv (by rw [ef2]; exact hS1) (by rw [ef2]; exact hC1))
      show V.int ((s1.next : Int) - (s.next : Int)) = V.int (s.room W : Nat)
      congr 1
      omega
end
end W170

namespace W170
section
open PySem PySem.Spec PyProof.Rows L2
theorem recvA_ok {s : Sn} (o : SnOk s) (M : Nat) (fs : List Int) (ok : Bool) : SnOk (s.recvA M fs ok).1 ∧ (s.recvA M fs ok).1.next = s.next ∧ (s.recvA M fs ok).1.base = s.base ∧ (s.recvA M fs ok).1.items = s.items := by
  unfold Sn.recvA
  split
  · exact ⟨o, rfl, rfl, rfl⟩
  · unfold Sn.recvAck
    split
    · exact ⟨o, rfl, rfl, rfl⟩
    · rename_i y h
      obtain ⟨h1, h2, _⟩ := numMeant_some h
      refine ⟨⟨o.len, o.few, o.le, o.nx, fun n h => ?_⟩, rfl, rfl, rfl⟩
      have h' : ackAll s fs y n = true := h
      unfold ackAll at h'
      rcases Bool.or_eq_true_iff.mp h' with h | h
      · rcases Bool.or_eq_true_iff.mp h with h | h
        · exact o.ackin n h
        · have h5 := of_decide_eq_true (Bool.and_eq_true_iff.mp h).2
          have := o.le
          show n < s.next
          omega
      · exact of_decide_eq_true (Bool.and_eq_true_iff.mp (Bool.and_eq_true_iff.mp h).1).2
theorem adv_ok {s : Sn} (o : SnOk s) (k : Nat) : SnOk (Sn.adv k s) := by
  obtain ⟨h1, h2, h3⟩ := adv_same k s o.ackin o.le
  rw [h3]
  exact ⟨o.len, o.few, h2, o.nx, o.ackin⟩
end
section
open Vbtwad
variable {m : Lk} {l : Link} {b : Nat}
theorem within_cons (x : Int) (xs : List Int) (lo hi : Int) (rs : List (List Int)) : withinB (x :: xs) ([lo, hi] :: rs) = (isBetween x lo hi && withinB xs rs) := by
  unfold isBetween
  show (if x < lo ∨ hi < x then false else withinB xs rs) = _
  by_cases c : x < lo ∨ hi < x
  · rw [if_pos c]
    have : (decide (lo ≤ x) && decide (x ≤ hi)) = false := by
      rcases c with c | c
      · rw [decide_eq_false (show ¬ lo ≤ x by omega), Bool.false_and]
      · rw [decide_eq_false (show ¬ x ≤ hi by omega), Bool.and_false]
    rw [this, Bool.false_and]
  · rw [if_neg c, decide_eq_true (show lo ≤ x by omega), decide_eq_true (show x ≤ hi by omega)]
    rfl
theorem item_eq (it : List Int) : isItemB it = !(parseItem it).isNone := by
  unfold isItemB
  by_cases c7 : it.length = 7
  · obtain ⟨n, t, f, c, p, k, v, rfl⟩ : ∃ a b c d e f g, it = [a, b, c, d, e, f, g] := by
      match it, c7 with
      | [a, b, c, d, e, f, g], _ => exact ⟨a, b, c, d, e, f, g, rfl⟩
    rw [if_pos c7]
    simp only [within_cons]
    rw [show withinB [] [] = true from rfl, Bool.and_true]
    show _ = !(if (isBetween n 1 maxId && (isBetween t 0 999 && (isBetween f 0 6 && (isBetween c 0 9999 && (isBetween p 0 5 && (isBetween k 0 5 && isBetween v (-9999) 9999)))))) = true then some (VbtwCore.Transit.event ⟨n.toNat, ⟨t.toNat, f.toNat, c.toNat, p.toNat, k.toNat, v⟩⟩) else none).isNone
    unfold maxId
    cases (isBetween n 1 99999 && (isBetween t 0 999 && (isBetween f 0 6 && (isBetween c 0 9999 && (isBetween p 0 5 && (isBetween k 0 5 && isBetween v (-9999) 9999))))))
    · rfl
    · rfl
  · rw [if_neg c7]
    by_cases c3 : it.length = 3
    · obtain ⟨n, p, t, rfl⟩ : ∃ a b c, it = [a, b, c] := by
        match it, c3 with
        | [a, b, c], _ => exact ⟨a, b, c, rfl⟩
      rw [if_pos c3]
      simp only [within_cons]
      rw [show withinB [] [] = true from rfl, Bool.and_true]
      show _ = !(if (isBetween n 1 maxId && (isBetween p 0 5 && isBetween t 0 999)) = true then some (VbtwCore.Transit.anti n.toNat p.toNat t.toNat) else none).isNone
      unfold maxId
      cases (isBetween n 1 99999 && (isBetween p 0 5 && isBetween t 0 999))
      · rfl
      · rfl
    · rw [if_neg c3]
      unfold parseItem
      split
      · exact absurd rfl c7
      · exact absurd rfl c3
      · rfl
theorem fillN_ok (M : Nat) : ∀ (k : Nat) {s : Sn} {c : Ch}, SnOk s → ChOk c → s.next + k ≤ s.items.length → SnOk (Sn.fillN M k s c).1 ∧ ChOk (Sn.fillN M k s c).2
  | 0, s, c, o, oc, _ => ⟨o, oc⟩
  | k + 1, s, c, o, oc, h => fillN_ok M k (s := { s with next := s.next + 1 }) ⟨o.len, o.few, Nat.le_succ_of_le o.le, by show s.next + 1 ≤ s.items.length; omega, fun n h => Nat.lt_succ_of_lt (o.ackin n h)⟩ (oc.send (frame_len o M s.next)) (by show s.next + 1 + k ≤ s.items.length; omega)
theorem fill_okk {s : Sn} {c : Ch} (W M : Nat) (o : SnOk s) (oc : ChOk c) : SnOk (s.fill W M c).1 ∧ ChOk (s.fill W M c).2 := by
  have := o.nx
  exact fillN_ok M (s.room W) o oc (by unfold Sn.room; omega)
theorem RcOk.more {r : Rc} {b b' : Nat} (o : RcOk r b) (h : b ≤ b') : RcOk r b' := ⟨Nat.le_trans o.x h, Nat.le_trans o.del h, Nat.le_trans o.cnt h⟩
theorem pass_del (ord : Bool) : ∀ (f : Nat) (r : Rc), (Rc.pass ord f r).x ≤ r.x + f ∧ (Rc.pass ord f r).del.length ≤ r.del.length + f ∧ r.del.length ≤ (Rc.pass ord f r).del.length
  | 0, r => ⟨Nat.le_refl _, Nat.le_refl _, Nat.le_refl _⟩
  | f + 1, r => by
    unfold Rc.pass
    split
    · exact ⟨by omega, by omega, by omega⟩
    · rename_i it _
      obtain ⟨h1, h2, h3⟩ := pass_del ord f { r with x := r.x + 1, del := if ord = true then r.del ++ [(r.x, it)] else r.del }
      have h1' : (Rc.pass ord f { r with x := r.x + 1, del := if ord = true then r.del ++ [(r.x, it)] else r.del }).x ≤ r.x + 1 + f := h1
      have hd : r.del.length ≤ (if ord = true then r.del ++ [(r.x, it)] else r.del).length ∧ (if ord = true then r.del ++ [(r.x, it)] else r.del).length ≤ r.del.length + 1 := by
        split
        · rw [List.length_append]
          exact ⟨by omega, Nat.le_refl _⟩
        · exact ⟨by omega, by omega⟩
      have h2' : (Rc.pass ord f { r with x := r.x + 1, del := if ord = true then r.del ++ [(r.x, it)] else r.del }).del.length ≤ (if ord = true then r.del ++ [(r.x, it)] else r.del).length + f := h2
      have h3' : (if ord = true then r.del ++ [(r.x, it)] else r.del).length ≤ (Rc.pass ord f { r with x := r.x + 1, del := if ord = true then r.del ++ [(r.x, it)] else r.del }).del.length := h3
      exact ⟨by omega, by omega, by omega⟩
theorem frame_ok {W M : Nat} {ord : Bool} {r : Rc} {b : Nat} (o : RcOk r b) (h8 : W ≤ 8) (fs : List Int) (ok : Bool) : RcOk (frameStep W M ord r fs ok).1 (b + 9) ∧ r.del.length ≤ (frameStep W M ord r fs ok).1.del.length := by
  have o' := o.more (show b ≤ b + 9 by omega)
  unfold frameStep
  split
  · exact ⟨o', Nat.le_refl _⟩
  · unfold Rc.recv
    split
    · exact ⟨o', Nat.le_refl _⟩
    · rename_i n _
      split
      · exact ⟨o', Nat.le_refl _⟩
      · obtain ⟨h1, h2, h3⟩ := pass_del ord W (r.put ord n (fs.drop 1))
        obtain ⟨p1, _, _⟩ := pass_cnt ord W (r.put ord n (fs.drop 1))
        have hd : r.del.length ≤ (r.put ord n (fs.drop 1)).del.length ∧ (r.put ord n (fs.drop 1)).del.length ≤ r.del.length + 1 := by
          show r.del.length ≤ (if ord = true then r.del else r.del ++ [(n, fs.drop 1)]).length ∧ (if ord = true then r.del else r.del ++ [(n, fs.drop 1)]).length ≤ r.del.length + 1
          split
          · exact ⟨by omega, by omega⟩
          · rw [List.length_append]
            exact ⟨by omega, Nat.le_refl _⟩
        have h1' : (Rc.pass ord W (r.put ord n (fs.drop 1))).x ≤ r.x + W := h1
        have p1' : (Rc.pass ord W (r.put ord n (fs.drop 1))).cnt = r.cnt + 1 := p1
        have := o.x
        have := o.del
        have := o.cnt
        exact ⟨⟨by show (Rc.pass ord W (r.put ord n (fs.drop 1))).x ≤ _; omega, by show (Rc.pass ord W (r.put ord n (fs.drop 1))).del.length ≤ _; omega, by show (Rc.pass ord W (r.put ord n (fs.drop 1))).cnt ≤ _; omega⟩, by show _ ≤ (Rc.pass ord W (r.put ord n (fs.drop 1))).del.length; omega⟩
/-! ### an item's time -/
theorem time_eq {it : List Int} (h : isItemB it = true) : (itemTime it : Int) = if it.length = 7 then it.getD 1 0 else it.getD 2 0 := by
  have e := item_eq it
  rw [h] at e
  unfold isItemB at h
  by_cases c7 : it.length = 7
  · obtain ⟨n, t, f, c, p, k, v, rfl⟩ : ∃ a b c d e f g, it = [a, b, c, d, e, f, g] := by
      match it, c7 with
      | [a, b, c, d, e, f, g], _ => exact ⟨a, b, c, d, e, f, g, rfl⟩
    rw [if_pos c7] at h
    simp only [within_cons] at h
    have h0 : (isBetween n 1 maxId && (isBetween t 0 999 && (isBetween f 0 6 && (isBetween c 0 9999 && (isBetween p 0 5 && (isBetween k 0 5 && isBetween v (-9999) 9999)))))) = true := by
      rw [show withinB [] [] = true from rfl, Bool.and_true] at h
      exact h
    have ht : 0 ≤ t := by
      have := (Bool.and_eq_true_iff.mp (Bool.and_eq_true_iff.mp h0).2).1
      exact of_decide_eq_true (Bool.and_eq_true_iff.mp this).1
    have ep : parseItem [n, t, f, c, p, k, v] = some (VbtwCore.Transit.event ⟨n.toNat, ⟨t.toNat, f.toNat, c.toNat, p.toNat, k.toNat, v⟩⟩) := if_pos h0
    unfold itemTime
    rw [ep, if_pos c7]
    show ((t.toNat : Nat) : Int) = t
    omega
  · rw [if_neg c7] at h
    by_cases c3 : it.length = 3
    · obtain ⟨n, p, t, rfl⟩ : ∃ a b c, it = [a, b, c] := by
        match it, c3 with
        | [a, b, c], _ => exact ⟨a, b, c, rfl⟩
      rw [if_pos c3] at h
      simp only [within_cons] at h
      have h0 : (isBetween n 1 maxId && (isBetween p 0 5 && isBetween t 0 999)) = true := by
        rw [show withinB [] [] = true from rfl, Bool.and_true] at h
        exact h
      have ht : 0 ≤ t := by
        have := (Bool.and_eq_true_iff.mp (Bool.and_eq_true_iff.mp h0).2).2
        exact of_decide_eq_true (Bool.and_eq_true_iff.mp this).1
      have ep : parseItem [n, p, t] = some (VbtwCore.Transit.anti n.toNat p.toNat t.toNat) := if_pos h0
      unfold itemTime
      rw [ep, if_neg c7]
      show ((t.toNat : Nat) : Int) = t
      omega
    · rw [if_neg c3] at h
      cases h
/-! ### dropping below a time -/
def below (t : Nat) (s : Sn) (n : Nat) : Bool := (decide (s.base ≤ n) && decide (n < s.next)) && (!(s.dropped n) && decide (itemTime (s.items.getD n []) < t))
def Sn.drop (t : Nat) (s : Sn) : Sn := { s with dropped := fun n => s.dropped n || below t s n }
def Sn.dropCnt (t : Nat) (s : Sn) : Nat := ((List.range (s.next - s.base)).filter fun i => below t s (s.base + i)).length
/-! ### recovery -/
def Lk.again (m : Lk) (a : Nat) : Lk := { m with fr := (m.fr.send (m.sn.frame m.M a)).pop, rc := (m.rc.recv m.W m.M m.ord (m.sn.frame m.M a)).1 }
def Lk.againAll : List Nat → Lk → Lk
  | [], m => m
  | a :: r, m => Lk.againAll r (if m.sn.acked a = true then m else m.again a)
def Lk.window (m : Lk) : List Nat := (List.range (m.sn.next - m.sn.base)).map fun i => m.sn.base + i
/-- the acknowledgement that is sent comes at once -/
def Lk.ackNow (m : Lk) : Lk :=
  let s1 := (m.sn.recvAck m.M (m.rc.ack m.W m.M)).1
  let s2 := Sn.adv (s1.next - s1.base) s1
  { m with ac := (m.ac.send (m.rc.ack m.W m.M)).pop, sn := (s2.fill m.W m.M m.fr).1, fr := (s2.fill m.W m.M m.fr).2 }
def Lk.round (m : Lk) : Lk := (Lk.againAll m.window m).ackNow
def Lk.recover : Nat → Lk → Lk × Nat
  | 0, m => (m, 0)
  | f + 1, m => if m.sn.next = m.sn.base then (m, 0) else ((Lk.recover f m.round).1, (Lk.recover f m.round).2 + 1)
/-! ### what is shown -/
/-- the received numbers from the base on, in order -/
def Rc.open_ (W : Nat) (r : Rc) : List Nat := ((List.range W).map fun i => r.x + i).filter fun n => (r.rcv n).isSome
def sndRow (s : Sn) (n : Nat) : List Int := [if s.acked n = true then 1 else 0, if s.dropped n = true then 0 else 1]
def mSState (m : Lk) : List Int := [(m.sn.base : Int), ((m.sn.next - m.sn.base : Nat) : Int), ((m.sn.items.length - m.sn.next : Nat) : Int)] ++ m.window.flatMap (sndRow m.sn)
def lenInts (l : List Nat) : List Int := (l.length : Int) :: l.map fun (n : Nat) => (n : Int)
def mRState (m : Lk) : List Int := (m.rc.x : Int) :: lenInts (m.rc.open_ m.W)
def delRow (y : Nat × List Int) : List Int := (y.1 : Int) :: (y.2.length : Int) :: y.2
def mListD (m : Lk) (k : Int) : List Int := if k < 0 ∨ (m.rc.del.length : Int) < k then [-1] else (m.rc.del.length : Int) :: (m.rc.del.drop k.toNat).flatMap delRow
/-- not delivered; not delivered as far as the sender knows -/
def Lk.open1 (m : Lk) (a : Nat) : Bool := !(if m.ord = true then decide (a < m.rc.x) else (m.rc.rcv a).isSome)
def Lk.open2 (m : Lk) (a : Nat) : Bool := decide (m.sn.base ≤ a) && (m.ord || !(m.sn.acked a))
def Lk.trans1 (m : Lk) : List Nat := (List.range m.sn.items.length).filter m.open1
def Lk.trans2 (m : Lk) : List Nat := (List.range m.sn.items.length).filter m.open2
def mListT (m : Lk) : List Int := lenInts m.trans1 ++ lenInts m.trans2
def mCounts (m : Lk) : List Int := [(m.sn.items.length : Int), (m.rc.del.length : Int), (m.fr.pk.length : Int), (m.ac.pk.length : Int), (m.fr.sent : Int), (m.ac.sent : Int)]
/-- the times of these numbers' items -/
def Lk.times (m : Lk) (ns : List Nat) : List Nat := ns.map fun a => itemTime (m.sn.items.getD a [])
def mMinTimes (ms : List Lk) : List Int := minOf (ms.flatMap fun m => m.times m.trans1) ++ minOf (ms.flatMap fun m => m.times m.trans2)
def mAllCounts (ms : List Lk) : List Int := (ms.length : Int) :: ms.flatMap mCounts
def mDrop (t : Nat) (ms : List Lk) : List Lk := ms.map fun m => { m with sn := m.sn.drop t }
def mRecover (m : Lk) : Lk × List Int := if m.safe = false then (m, [-9]) else ((Lk.recover 121 m).1, [((Lk.recover 121 m).2 : Int), ((Lk.recover 121 m).1.rc.del.length : Int) - (m.rc.del.length : Int)])
/-- the least time of all that is in transit -/
def mLeast (ms : List Lk) : Option Nat := minimumOf (ms.flatMap fun m => m.times m.trans1)
def mDropB (ms : List Lk) (t : Int) : List Lk × List Int := if isBetween t 0 1000 = false then (ms, [-1]) else if ((mLeast ms).any fun u => decide (u < t.toNat)) = true then (ms, [-7]) else
  (mDrop t.toNat ms, [(((ms.map fun m => m.sn.dropCnt t.toNat).foldl (fun a b => a + b) 0 : Nat) : Int)])
def mCheck (w m k r o : Int) : List Int := if rangeB w m k r o = false then [-1] else [if safeB w m k r = true then 1 else 0, missB w m k r]
end
end W170

namespace W170
open PySem PySem.Spec PyProof.Rows L2
/-! ### comprehensions whose parts change nothing -/
theorem filt_succ {α : Type} (p : Nat → Bool) (f : Nat → α) (i : Nat) : ((List.range (i + 1)).filter p).map f = ((List.range i).filter p).map f ++ (if p i = true then [f i] else []) := by
  rw [List.range_succ, List.filter_append, List.map_append]
  congr 1
  rw [List.filter_cons]
  by_cases c : p i = true
  · rw [if_pos c, if_pos c]
    rfl
  · rw [if_neg c, if_neg c]
    rfl
theorem filt_len {α : Type} (p : Nat → Bool) (f : Nat → α) (i : Nat) : (((List.range i).filter p).map f).length ≤ i := by
  rw [List.length_map]
  exact Nat.le_trans (List.length_filter_le _ _) (by rw [List.length_range]; exact Nat.le_refl _)
theorem lc_rangeF {lo : Int} {n k : Nat} {tt : TT} {te : TE} {vs : List Nat} {σ : L2.St} {H1 : Hp} {D : Addr} {Qd : Hp → Prop} (p : Nat → Bool) (f : Nat → Int) (nD : H1 D = none) (hn : n ≤ 1000)
    (hw : ∀ i, wipe ((wipe σ vs).set k (some (.int (lo + (i : Nat))))) vs = wipe σ vs)
    (hs : ∀ (i : Nat) H', i < n → Same H1 H' → EtX tt ((wipe σ vs).set k (some (.int (lo + (i : Nat))))) H' (p i) ∧ EvX te ((wipe σ vs).set k (some (.int (lo + (i : Nat))))) H' (.int (f i)))
    (hd : ∀ H', Same H1 H' → H' D = some (.lst ((((List.range n).filter p).map f).map V.int)) → Qd H') :
    ∃ W : Nat → Nat → Hp → Prop, (∃ m, W 0 m (upd H1 D (.lst []))) ∧ ∀ i m H, W i m H →
      ((Itr lo n).stop i H ∧ Qd H) ∨ ((Itr lo n).go i H ∧ ∃ Nx : Hp → Prop, (∀ H', Nx H' → ∃ m', m' < m ∧ W (i + 1) m' H') ∧ ∀ x H', (Itr lo n).yld i H x H' → gName k x (wipe σ vs) H' fun σ2 H2 => wipe σ2 vs = wipe σ vs ∧ tt σ2 H2 fun b H3 =>
        if b = true then te σ2 H3 fun y H4 => ∃ acc, H4 D = some (.lst acc) ∧ acc.length < sizeLine ∧ Nx (upd H4 D (.lst (acc ++ [y]))) else Nx H3) := by
  refine lc_range (fun i H' => Same H1 H' ∧ H' D = some (.lst ((((List.range i).filter p).map f).map V.int))) ⟨same_new nD, upd_same⟩ ?_ (fun H' h => hd H' h.1 h.2)
  rintro i H' hi ⟨sm, hD⟩
  obtain ⟨h1, h2⟩ := hs i H' hi sm
  have hl := filt_len p f i
  refine ⟨hw i, h1 _ (if_c (fun e => ?_) (fun e => ?_))⟩
  · refine h2 _ ⟨_, hD, ?_, same_upd sm nD, ?_⟩
    · rw [List.length_map]
      exact Nat.lt_of_le_of_lt (by omega : _ ≤ 1000) (by decide)
    · rw [upd_same, filt_succ, if_pos e, List.map_append]
      rfl
  · refine ⟨sm, ?_⟩
    rw [hD, filt_succ, if_neg (by rw [e]; exact Bool.false_ne_true), List.append_nil]
theorem lc_listF {K : PySem.W.Frag} {a : Addr} {ns : List Nat} {k : Nat} {te : TE} {vs : List Nat} {σ : L2.St} {H1 : Hp} {D : Addr} {Qd : Hp → Prop} (f : Nat → Int) (nD : H1 D = none) (hn : ns.length ≤ 1000) (ha : H1 a = some (.lst ((natI ns).map V.int)))
    (hw : ∀ i : Int, wipe ((wipe σ vs).set k (some (.int i))) vs = wipe σ vs)
    (hs : ∀ (n : Nat) H', n ∈ ns → Same H1 H' → EvX te ((wipe σ vs).set k (some (.int (n : Nat)))) H' (.int (f n)))
    (hd : ∀ H', Same H1 H' → H' D = some (.lst ((ns.map f).map V.int)) → Qd H') :
    ∃ W : Nat → Nat → Hp → Prop, (∃ m, W 0 m (upd H1 D (.lst []))) ∧ ∀ i m H, W i m H →
      ((Itl K a).stop i H ∧ Qd H) ∨ ((Itl K a).go i H ∧ ∃ Nx : Hp → Prop, (∀ H', Nx H' → ∃ m', m' < m ∧ W (i + 1) m' H') ∧ ∀ x H', (Itl K a).yld i H x H' → gName k x (wipe σ vs) H' fun σ2 H2 => wipe σ2 vs = wipe σ vs ∧ tYes σ2 H2 fun b H3 =>
        if b = true then te σ2 H3 fun y H4 => ∃ acc, H4 D = some (.lst acc) ∧ acc.length < sizeLine ∧ Nx (upd H4 D (.lst (acc ++ [y]))) else Nx H3) := by
  refine lc_list (K := K) (a := a) (xs := (natI ns).map V.int) (fun i H' => Same H1 H' ∧ H' D = some (.lst (((ns.take i).map f).map V.int))) ⟨same_new nD, upd_same⟩ (fun i H' _ h => .of (h.1 _ _ ha)) ?_ (fun H' h => hd H' h.1 (by
    have e := h.2
    rw [List.length_map, show (natI ns).length = ns.length from List.length_map .., List.take_length] at e
    exact e))
  rintro i x H' hx ⟨sm, hD⟩
  obtain ⟨z, hz, rfl⟩ := map_get hx
  obtain ⟨n, hn2, rfl⟩ : ∃ n, ns[i]? = some n ∧ (n : Int) = z := by
    unfold natI at hz
    rw [List.getElem?_map] at hz
    exact Option.map_eq_some_iff.mp hz
  refine ⟨hw _, ?_⟩
  dsimp only [tYes]
  rw [if_pos rfl]
  have hl : (ns.take i).length ≤ ns.length := by
    rw [List.length_take]
    omega
  refine hs n H' (List.mem_of_getElem? hn2) sm _ ⟨_, hD, ?_, same_upd sm nD, ?_⟩
  · rw [List.length_map, List.length_map]
    exact Nat.lt_of_le_of_lt (by omega : _ ≤ 1000) (by decide)
  · rw [upd_same, List.take_add_one, hn2, List.map_append, List.map_append]
    rfl
theorem decN (a b : Nat) : decide ((a : Int) < (b : Int)) = decide (a < b) := by
  by_cases z : a < b
  · rw [decide_eq_true z, decide_eq_true (by omega)]
  · rw [decide_eq_false z, decide_eq_false (by omega)]
section
variable {P : Program} {w : World} {K : PySem.W.Frag} {mg : Str → Option Value} {base : Heap} {C : Cs}
/-! ### the receiver -/
def Rc.has (ord : Bool) (r : Rc) (n : Nat) : Bool := if ord = true then decide (n < r.x) else (r.rcv n).isSome
def spHasDel (C : Cs) : Sp := fun vs H Q _ => ∃ (g : Gh) (i : Nat) (a : Addr) (W M : Nat) (ord : Bool) (r : Rc) (n : Nat), vs = [.ref a, .int n] ∧ RcAt C g H i a W M ord r ∧ Q (.bl (r.has ord n)) H
theorem m_has_delivered (T : Txt K mg C) : C8.Met P w K mg base 1 C.Receiver "has_delivered" (spHasDel C) [] := by
  have cl := T.k_Receiver.cl
  refine df_m T.m_Receiver_has_delivered sc_Receiver_has_delivered (fun vs H Q E h => ?_) (fun f cdv A outer s H vs Q E hr h => ?_)
  · obtain ⟨_, _, _, _, _, _, _, _, rfl, _⟩ := h
    rfl
  · obtain ⟨g, i, a, W, M, ord, r, n, rfl, ⟨dx, d, l, kvs, ps, aA, aD, aL, hk, hRv, hP⟩, k⟩ := h
    refine ⟨_, pss_cons (ps_if (pt_val (pe_fld (pv 0) rfl)) (pss_one (ps_ret (pe_cmpR op_lt (pv 1) (pe_fld (pv 0) rfl) (nomark _)))) pss_nil)
      (pss_one (ps_ret (pe_cmp (pc_din (hu_of hr) (pv 1) (pe_fld (pv 0) rfl))))), ?_⟩
    unfold Rc.has at k
    refine y_if (x_B (x_fld (x_v 0) aA.2 cl (no_Receiver_ordered T) lk_Receiver_ordered)) (fun e => ?_) (fun e => ?_)
    · rw [if_pos e] at k
      refine y_ret (x_is (x_i0 (x_v 1) (x_fld (x_v 0) aA.2 cl (no_Receiver_lowest_missing T) lk_Receiver_lowest_missing)) ?_) k
      rw [decN]
    · rw [e, if_neg Bool.false_ne_true] at k
      dsimp only [tNext]
      refine y_ret (x_is (x_din (x_v 1) (x_fld (x_v 0) aA.2 cl (no_Receiver_received T) lk_Receiver_received) aD.2) ?_) k
      rw [hRv.isSome n]
theorem open_eq (W : Nat) (r : Rc) : ((List.range W).filter fun i => (r.rcv (r.x + i)).isSome).map (fun i => (r.x : Int) + (i : Nat)) = natI (r.open_ W) := by
  unfold Rc.open_ natI
  rw [List.filter_map, List.map_map]
  refine List.map_congr_left fun i _ => ?_
  show (r.x : Int) + (i : Int) = ((r.x + i : Nat) : Int)
  omega
def spAbove (C : Cs) : Sp := fun vs H Q _ => ∃ (g : Gh) (i : Nat) (a : Addr) (W M : Nat) (ord : Bool) (r : Rc), vs = [.ref a] ∧ RcAt C g H i a W M ord r ∧ W ≤ 8 ∧ r.x ≤ 10000000 ∧ ∀ H' p, Same H H' → H p = none → H' p = some (.lst ((natI (r.open_ W)).map V.int)) → Q (.ref p) H'
theorem m_received_above (T : Txt K mg C) : C8.Met P w K mg base 1 C.Receiver "received_above" (spAbove C) [] := by
  have cl := T.k_Receiver.cl
  refine df_m T.m_Receiver_received_above sc_Receiver_received_above (fun vs H Q E h => ?_) (fun f cdv A outer s H vs Q E hr h => ?_)
  · obtain ⟨_, _, _, _, _, _, _, rfl, _⟩ := h
    rfl
  · obtain ⟨g, i, a, W, M, ord, r, rfl, ⟨dx, d, l, kvs, ps, aA, aD, aL, hk, hRv, hP⟩, hW, hx, k⟩ := h
    refine ⟨_, pss_cons (ps_set (i := 1) sc_Receiver_received_above.nd rfl (.inl rfl) (pe_op op_add (pe_fld (pv 0) rfl) (pe_fld (pv 0) rfl)))
      (pss_one (ps_ret (pe_lc (own := [("number", 2)]) (g := gName 2) (tt := tB (tDIn (tVar 2) (tFld K (tVar 0) "received"))) (te := tVar 2) rfl sc_Receiver_received_above.nd (pi_range2 (by rfl) T.b_range (pa_cons (pe_fld (pv 0) rfl) (pa_cons (pv 1) pa_nil))) (blkOk_by (own := [("number", 2)]) (N := ["self", "end", "number"]) (sc := defScope s_Receiver_received_above) (by decide +kernel)) (fun _ _ _ _ _ => pg_name (i := 2) sc_Receiver_received_above.nd rfl (.inl rfl)) (fun _ _ _ _ _ => pts_one (pt_cmp (pc_din (hu_of hr) (pv 2) (pe_fld (pv 0) rfl)))) (fun _ _ _ _ _ => pv 2)))), ?_⟩
    refine y_asg (x_i0 (x_fld (x_v 0) aA.2 cl (no_Receiver_lowest_missing T) lk_Receiver_lowest_missing) (x_fld (x_v 0) aA.2 cl (no_Receiver_window_size T) lk_Receiver_window_size)) ?_
    refine ⟨_, rfl, a, C.Receiver, dx, _, _, rfl, aA.2, cl, no_Receiver_lowest_missing T, lk_Receiver_lowest_missing, _, rfl, _, _, rfl, ⟨by omega, by omega, by omega, by omega⟩, fun D nD => ?_⟩
    have en : (((r.x : Int) + (W : Int)) - (r.x : Int)).toNat = W := by omega
    rw [en]
    refine lc_rangeF (fun i => (r.rcv (r.x + i)).isSome) (fun i => (r.x : Int) + (i : Nat)) nD (by omega) (fun _ => rfl) (fun j H' hj sm => ⟨?_, x_v 2⟩) (fun H' sm hD => ?_)
    · refine x_B (x_is (x_din (x_v 2) (x_fld (x_v 0) (sm _ _ aA.2) cl (no_Receiver_received T) lk_Receiver_received) (sm _ _ aD.2)) ?_)
      rw [show (r.x : Int) + (j : Int) = ((r.x + j : Nat) : Int) by omega, hRv.isSome (r.x + j)]
    · rw [open_eq] at hD
      exact k H' D sm nD hD
end
end W170

namespace W170
open PySem PySem.Spec PyProof.Rows L2
theorem len_put {kvs : List (Key × V)} {k : Key} {v : V} : (putK kvs k v).length = kvs.length + (if (valV kvs k).isSome = true then 0 else 1) := by
  have e : (valV kvs k).isSome = kvs.any fun kv => decide (kv.1 = k) := by
    unfold valV
    rw [Option.isSome_map, List.isSome_find?]
  unfold putK
  rw [e]
  split
  · rw [List.length_map]
    rfl
  · rw [List.length_append]
    rfl
def Sn.unack (s : Sn) : List Nat := ((List.range (s.items.length - s.base)).filter fun i => !(s.acked (s.base + i))).map fun i => s.base + i
theorem unack_eq (s : Sn) : ((List.range (s.items.length - s.base)).filter fun i => !(s.acked (s.base + i))).map (fun i => (s.base : Int) + (i : Nat)) = natI s.unack := by
  unfold Sn.unack natI
  rw [List.map_map]
  refine List.map_congr_left fun i _ => ?_
  show (s.base : Int) + (i : Int) = ((s.base + i : Nat) : Int)
  omega
def Sn.timesOf (s : Sn) (ns : List Nat) : List Nat := ns.map fun n => Vbtwad.itemTime (s.items.getD n [])
/-- how many of the first j numbers of the window are dropped -/
def Sn.dropTo (t : Nat) (s : Sn) (j : Nat) : Nat := ((List.range j).filter fun i => below t s (s.base + i)).length
theorem dropTo_succ (t : Nat) (s : Sn) (j : Nat) : s.dropTo t (j + 1) = s.dropTo t j + (if below t s (s.base + j) = true then 1 else 0) := by
  unfold Sn.dropTo
  have h := filt_succ (fun i => below t s (s.base + i)) (fun i => i) j
  have h2 := congrArg List.length h
  rw [List.length_map, List.length_append, List.length_map] at h2
  rw [h2]
  split <;> rfl
section
variable {P : Program} {w : World} {K : PySem.W.Frag} {mg : Str → Option Value} {base : Heap} {C : Cs}
def spWinC (C : Cs) : Sp := fun vs H Q _ => ∃ (g : Gh) (i : Nat) (a fa : Addr) (W M : Nat) (s : Sn) (b : Nat), vs = [.ref a] ∧ SnAt C g H i a fa W M s b ∧ Q (.int ((s.next : Int) - (s.base : Int))) H
theorem m_window_count (T : Txt K mg C) : C8.Met P w K mg base 1 C.Sender "window_count" (spWinC C) [] := by
  have cl := T.k_Sender.cl
  refine df_m T.m_Sender_window_count sc_Sender_window_count (fun vs H Q E h => ?_) (fun f cdv A outer s H vs Q E hr h => ?_)
  · obtain ⟨_, _, _, _, _, _, _, _, rfl, _⟩ := h
    rfl
  · obtain ⟨g, i, a, fa, W, M, s, b, rfl, ⟨dx, l, da, dd, ps, ka, kd, aA, _⟩, k⟩ := h
    refine ⟨_, pss_one (ps_ret (pe_op op_sub (pe_fld (pv 0) rfl) (pe_fld (pv 0) rfl))), ?_⟩
    exact y_ret (x_i0 (x_fld (x_v 0) aA.2 cl (no_Sender_next_number T) lk_Sender_next_number) (x_fld (x_v 0) aA.2 cl (no_Sender_base T) lk_Sender_base)) k
def spQueC (C : Cs) : Sp := fun vs H Q _ => ∃ (g : Gh) (i : Nat) (a fa : Addr) (W M : Nat) (s : Sn) (b : Nat), vs = [.ref a] ∧ SnAt C g H i a fa W M s b ∧ Q (.int ((s.items.length : Int) - (s.next : Int))) H
theorem m_queue_count (T : Txt K mg C) : C8.Met P w K mg base 1 C.Sender "queue_count" (spQueC C) [] := by
  have cl := T.k_Sender.cl
  refine df_m T.m_Sender_queue_count sc_Sender_queue_count (fun vs H Q E h => ?_) (fun f cdv A outer s H vs Q E hr h => ?_)
  · obtain ⟨_, _, _, _, _, _, _, _, rfl, _⟩ := h
    rfl
  · obtain ⟨g, i, a, fa, W, M, s, b, rfl, ⟨dx, l, da, dd, ps, ka, kd, aA, aL, aD, aE, hP, _⟩, k⟩ := h
    refine ⟨_, pss_one (ps_ret (pe_op op_sub (pe_ln T.b_len (pe_fld (pv 0) rfl)) (pe_fld (pv 0) rfl))), ?_⟩
    rw [← Paired.length hP, ← List.length_map (f := V.ref)] at k
    exact y_ret (x_i0 (x_len (x_fld (x_v 0) aA.2 cl (no_Sender_all_items T) lk_Sender_all_items) (.of aL.2)) (x_fld (x_v 0) aA.2 cl (no_Sender_next_number T) lk_Sender_next_number)) k
def spUnack (C : Cs) : Sp := fun vs H Q _ => ∃ (g : Gh) (i : Nat) (a fa : Addr) (W M : Nat) (s : Sn) (b : Nat), vs = [.ref a] ∧ SnAt C g H i a fa W M s b ∧ s.items.length ≤ 120 ∧ s.base ≤ s.items.length ∧ ∀ H' p, Same H H' → H p = none → H' p = some (.lst ((natI s.unack).map V.int)) → Q (.ref p) H'
theorem m_unacknowledged (T : Txt K mg C) : C8.Met P w K mg base 1 C.Sender "unacknowledged" (spUnack C) [] := by
  have cl := T.k_Sender.cl
  refine df_m T.m_Sender_unacknowledged sc_Sender_unacknowledged (fun vs H Q E h => ?_) (fun f cdv A outer s H vs Q E hr h => ?_)
  · obtain ⟨_, _, _, _, _, _, _, _, rfl, _⟩ := h
    rfl
  · obtain ⟨g, i, a, fa, W, M, s, b, rfl, ⟨dx, l, da, dd, ps, ka, kd, aA, aL, aD, aE, hP, hA, hD, ba, bd⟩, h120, hbl, k⟩ := h
    refine ⟨_, pss_cons (ps_set (i := 1) sc_Sender_unacknowledged.nd rfl (.inl rfl) (pe_ln T.b_len (pe_fld (pv 0) rfl)))
      (pss_one (ps_ret (pe_lc (own := [("number", 2)]) (g := gName 2) (tt := tB (tDNotIn (tVar 2) (tFld K (tVar 0) "acknowledged"))) (te := tVar 2) rfl sc_Sender_unacknowledged.nd (pi_range2 (by rfl) T.b_range (pa_cons (pe_fld (pv 0) rfl) (pa_cons (pv 1) pa_nil))) (blkOk_by (own := [("number", 2)]) (N := ["self", "item_count", "number"]) (sc := defScope s_Sender_unacknowledged) (by decide +kernel)) (fun _ _ _ _ _ => pg_name (i := 2) sc_Sender_unacknowledged.nd rfl (.inl rfl)) (fun _ _ _ _ _ => pts_one (pt_cmp (pc_dnotin (hu_of hr) (pv 2) (pe_fld (pv 0) rfl)))) (fun _ _ _ _ _ => pv 2)))), ?_⟩
    have eN : EvX (tCB (rLn K) (tCons (tFld K (tVar 0) "all_items") tNil)) (L2.start ["self", "item_count", "number"] [V.ref a]) H (.int (ps.map V.ref).length) := x_len (x_fld (x_v 0) aA.2 cl (no_Sender_all_items T) lk_Sender_all_items) (.of aL.2)
    rw [List.length_map, Paired.length hP] at eN
    refine y_asg eN ?_
    refine ⟨_, rfl, a, C.Sender, dx, _, _, rfl, aA.2, cl, no_Sender_base T, lk_Sender_base, _, rfl, _, _, rfl, ⟨by omega, by omega, by omega, by omega⟩, fun D nD => ?_⟩
    have en : ((s.items.length : Int) - (s.base : Int)).toNat = s.items.length - s.base := by omega
    rw [en]
    refine lc_rangeF (fun i => !(s.acked (s.base + i))) (fun i => (s.base : Int) + (i : Nat)) nD (by omega) (fun _ => rfl) (fun j H' hj sm => ⟨?_, x_v 2⟩) (fun H' sm hD' => ?_)
    · refine x_B (x_is (x_dnin (x_v 2) (x_fld (x_v 0) (sm _ _ aA.2) cl (no_Sender_acknowledged T) lk_Sender_acknowledged) (sm _ _ aD.2)) ?_)
      rw [show (s.base : Int) + (j : Int) = ((s.base + j : Nat) : Int) by omega, hA (s.base + j)]
    · rw [unack_eq] at hD'
      exact k H' D sm nD hD'
def spTimes (C : Cs) : Sp := fun vs H Q _ => ∃ (g : Gh) (i : Nat) (a fa p : Addr) (W M : Nat) (s : Sn) (b : Nat) (ns : List Nat), vs = [.ref a, .ref p] ∧ SnAt C g H i a fa W M s b ∧ H p = some (.lst ((natI ns).map V.int)) ∧ ns.length ≤ 120 ∧ (∀ n ∈ ns, n < s.items.length) ∧ (∀ it ∈ s.items, isItemB it = true) ∧
  ∀ H' q, Same H H' → H q = none → H' q = some (.lst ((natI (s.timesOf ns)).map V.int)) → Q (.ref q) H'
theorem m_times_of (T : Txt K mg C) : C8.Met P w K mg base 2 C.Sender "times_of" (spTimes C) [] := by
  have cT : C8.Cal P w K mg base 1 "time_of" (spTime K) [] := c_time_of T
  have cl := T.k_Sender.cl
  refine df_m T.m_Sender_times_of sc_Sender_times_of (fun vs H Q E h => ?_) (fun f cdv A outer s H vs Q E hr h => ?_)
  · obtain ⟨_, _, _, _, _, _, _, _, _, _, rfl, _⟩ := h
    rfl
  · obtain ⟨g, i, a, fa, p, W, M, s, b, ns, rfl, ⟨dx, l, da, dd, ps, ka, kd, aA, aL, aD, aE, hP, hA, hD, ba, bd⟩, hp, h120, hns, hit, k⟩ := h
    refine ⟨_, pss_one (ps_ret (pe_lc (own := [("number", 2)]) (g := gName 2) (tt := tYes) (te := tCall (spTime K) [] C8.E0 (tCons (tOp (rIxL K) (tFld K (tVar 0) "all_items") (tVar 2)) tNil)) rfl sc_Sender_times_of.nd (pi_list (pv 1)) (blkOk_by (own := [("number", 2)]) (N := ["self", "numbers", "number"]) (sc := defScope s_Sender_times_of) (by decide +kernel)) (fun _ _ _ _ _ => pg_name (i := 2) sc_Sender_times_of.nd rfl (.inl rfl)) (fun _ _ _ _ _ => pts_nil) (fun _ _ _ _ _ => C8.pe_c cT hr (by decide) (by rfl) (pa_cons (pe_ix ix_list (pe_fld (pv 0) rfl) (pv 2) (fun _ _ => rfl)) pa_nil)))), ?_⟩
    refine ⟨_, rfl, p, rfl, ⟨_, .of hp⟩, fun D nD => ?_⟩
    refine lc_listF (fun n => ((Vbtwad.itemTime (s.items.getD n []) : Nat) : Int)) nD (by omega) hp (fun _ => rfl) (fun n H' hn sm => ?_) (fun H' sm hD' => ?_)
    · have hlt := hns n hn
      have h1 : s.items[n]? = some (s.items.getD n []) := by
        rw [List.getD_eq_getElem?_getD, List.getElem?_eq_getElem hlt]
        rfl
      obtain ⟨q, hq, pa⟩ := Paired.at hP h1
      have hi := hit _ (List.mem_of_getElem? h1)
      rw [time_eq hi]
      refine fun Q' q' => x_call (x_cons (x_ix (n := n) (x_fld (x_v 0) (sm _ _ aA.2) cl (no_Sender_all_items T) lk_Sender_all_items) (x_v 2) (.of (sm _ _ aL.2)) (get_map hq)) x_nil) ⟨q, _, rfl, .of (sm _ _ pa.2), hi, q'⟩
    · refine k H' D sm nD ?_
      rw [hD']
      unfold Sn.timesOf natI
      simp only [List.map_map]
      rfl
def spDropC (C : Cs) : Sp := fun vs H Q _ => ∃ (g : Gh) (i : Nat) (a fa : Addr) (W M : Nat) (s : Sn) (b t : Nat), vs = [.ref a, .int t] ∧ SnAt C g H i a fa W M s b ∧ SnOk s ∧ (∀ it ∈ s.items, isItemB it = true) ∧ b ≤ 9000000 ∧
  ∀ H', Mv (fun r => r = (i, 3, 3)) g H g H' → SnAt C g H' i a fa W M (s.drop t) (b + 200) → Q (.int (s.dropCnt t : Nat)) H'
theorem m_drop_contents (T : Txt K mg C) : C8.Met P w K mg base 2 C.Sender "drop_contents" (spDropC C) [] := by
  have cT : C8.Cal P w K mg base 1 "time_of" (spTime K) [] := c_time_of T
  have cl := T.k_Sender.cl
  refine df_m T.m_Sender_drop_contents sc_Sender_drop_contents (fun vs H Q E h => ?_) (fun f cdv A outer s H vs Q E hr h => ?_)
  · obtain ⟨_, _, _, _, _, _, _, _, _, rfl, _⟩ := h
    rfl
  · obtain ⟨g, i, a, fa, W, M, s, b, t, rfl, ⟨dx, l, da, dd, ps, ka, kd, aA, aL, aD, aE, hP, hA, hD, ba, bd⟩, ok, hit, hb, k⟩ := h
    refine ⟨_, pss_cons (ps_set (i := 2) sc_Sender_drop_contents.nd rfl (.inl rfl) (pe_callB call_lenD (by rfl) T.b_len PySem.boot_len (pa_cons (pe_fld (pv 0) rfl) pa_nil)))
      (pss_cons (ps_for PassesOwn.never rfl (pi_range2 (by rfl) T.b_range (pa_cons (pe_fld (pv 0) rfl) (pa_cons (pe_fld (pv 0) rfl) pa_nil))) (pg_name (i := 3) sc_Sender_drop_contents.nd rfl (.inl rfl))
        (pss_one (ps_if (pt_cmpR op_lt (C8.pe_c cT hr (by decide) (by rfl) (pa_cons (pe_ix ix_list (pe_fld (pv 0) rfl) (pv 3) (fun _ _ => rfl)) pa_nil)) (pv 1) (nomark _)) (pss_one (ps_dput (hu_of hr) (pe_fld (pv 0) rfl) (pv 3) pe_bl rfl)) pss_nil)))
      (pss_one (ps_ret (pe_op op_sub (pe_callB call_lenD (by rfl) T.b_len PySem.boot_len (pa_cons (pe_fld (pv 0) rfl) pa_nil)) (pv 2))))), ?_⟩
    have hle := ok.le
    have hnx := ok.nx
    have hfew := ok.few
    refine ⟨_, rfl, a, C.Sender, dx, _, _, rfl, aA.2, cl, no_Sender_dropped T, lk_Sender_dropped, dd, kd, rfl, aE.2, ?_⟩
    refine ⟨_, rfl, a, C.Sender, dx, _, _, rfl, aA.2, cl, no_Sender_base T, lk_Sender_base, _, rfl, a, C.Sender, dx, _, _, rfl, aA.2, cl, no_Sender_next_number T, lk_Sender_next_number, _, _, rfl, ⟨by omega, by omega, by omega, by omega⟩, ?_⟩
    have en : ((s.next : Int) - (s.base : Int)).toNat = s.next - s.base := by omega
    rw [en]
    refine for_range (lo := (s.base : Int)) (n := s.next - s.base)
      (fun j σ H' => ∃ (y : Option V) (kv : List (Key × V)), σ = [some (.ref a), some (.int t), some (.int kd.length), y] ∧ Mv (fun r => r = (i, 3, 3)) g H g H' ∧ H' dd = some (.dK kv) ∧ SetAt kv (fun n => s.dropped n || (below t s n && decide (n < s.base + j))) ∧ kv.length = kd.length + s.dropTo t j)
      ⟨_, kd, rfl, Mv.refl, aE.2, fun n => ?_, rfl⟩ ?_ ?_
    · rw [hD n]
      unfold below
      dsimp only
      cases h : decide (s.base ≤ n) with
      | false => simp
      | true =>
        have := of_decide_eq_true h
        rw [decide_eq_false (show ¬ n < s.base + 0 by omega)]
        simp
    · rintro j σ H' hj ⟨y, kv, rfl, mv, hd, hs, hlen⟩
      have hlt : s.base + j < s.items.length := by omega
      have h1 : s.items[s.base + j]? = some (s.items.getD (s.base + j) []) := by
        rw [List.getD_eq_getElem?_getD, List.getElem?_eq_getElem hlt]
        rfl
      obtain ⟨q, hq, pa⟩ := Paired.at hP h1
      have hi := hit _ (List.mem_of_getElem? h1)
      have ni : ¬ imm = ((i, 3, 3) : Role) := fun z => by cases congrArg (fun r : Role => r.2.1) z
      have A2 := aA.mv mv (role_ne (by omega))
      have L2' := aL.mv mv (role_ne (by omega))
      have P2 := ItAt.mv pa mv ni
      have ek : (s.base : Int) + (j : Int) = ((s.base + j : Nat) : Int) := by omega
      have hbl : below t s (s.base + j) = (!(s.dropped (s.base + j)) && decide (Vbtwad.itemTime (s.items.getD (s.base + j) []) < t)) := by
        unfold below
        rw [decide_eq_true (show s.base ≤ s.base + j by omega), decide_eq_true (show s.base + j < s.next by omega)]
        rfl
      have hdt := dropTo_succ t s j
      have hcap : s.dropTo t j ≤ j := by
        unfold Sn.dropTo
        exact Nat.le_trans (List.length_filter_le _ _) (by rw [List.length_range]; exact Nat.le_refl _)
      have ev : EtX (tTest (tOp (rI0 fun i j => V.bl (decide (i < j))) (tCall (spTime K) [] C8.E0 (tCons (tOp (rIxL K) (tFld K (tVar 0) "all_items") (tVar 3)) tNil)) (tVar 1))) [some (.ref a), some (.int t), some (.int kd.length), some (.int ((s.base : Int) + (j : Int)))] H' (decide (Vbtwad.itemTime (s.items.getD (s.base + j) []) < t)) := by
        refine t_is (x_test (x_i0 (i := ((Vbtwad.itemTime (s.items.getD (s.base + j) []) : Nat) : Int)) (fun Q' q' => x_call (x_cons (x_ix (n := s.base + j) (x_fld (x_v 0) A2.2 cl (no_Sender_all_items T) lk_Sender_all_items) (x_v 3 (by rw [ek]; rfl)) (.of L2'.2) (get_map hq)) x_nil) ⟨q, _, rfl, .of P2.2, hi, by
          have e := time_eq hi
          unfold timeB
          rw [← e]
          exact q'⟩) (x_v 1))) ?_
        rw [decN]
      refine y_if ev (fun e => ?_) (fun e => ?_)
      · rw [e, Bool.and_true] at hbl
        refine y_dput x_c (x_fld (x_v 0) A2.2 cl (no_Sender_dropped T) lk_Sender_dropped) (x_v 3) hd (Nat.lt_of_le_of_lt (by omega : kv.length ≤ 9001000) (by decide)) ?_
        refine ⟨_, _, rfl, mv.trans (Mv.set hd aE.1), upd_same, fun n => ?_, ?_⟩
        · rw [ek, SetAt.put hs (s.base + j) (V.bl true) n]
          unfold setN
          dsimp only
          by_cases c : n = s.base + j
          · subst c
            rw [if_pos rfl, hbl, decide_eq_true (show s.base + j < s.base + (j + 1) by omega)]
            cases s.dropped (s.base + j) <;> rfl
          · rw [if_neg c]
            congr 2
            all_goals try dsimp only
            by_cases z : n < s.base + j
            · rw [decide_eq_true z, decide_eq_true (show n < s.base + (j + 1) by omega)]
            · rw [decide_eq_false z, decide_eq_false (show ¬ n < s.base + (j + 1) by omega)]
        · have h2 := hs (s.base + j)
          dsimp only at h2
          rw [decide_eq_false (show ¬ s.base + j < s.base + j by omega), Bool.and_false, Bool.or_false] at h2
          rw [len_put, ek, h2, hlen, hdt, hbl]
          cases s.dropped (s.base + j) <;> rfl
      · rw [e, Bool.and_false] at hbl
        dsimp only [tNext]
        refine ⟨_, kv, rfl, mv, hd, fun n => ?_, ?_⟩
        · rw [hs n]
          dsimp only
          congr 1
          by_cases c : n = s.base + j
          · subst c
            rw [hbl]
            rfl
          · congr 1
            by_cases z : n < s.base + j
            · rw [decide_eq_true z, decide_eq_true (show n < s.base + (j + 1) by omega)]
            · rw [decide_eq_false z, decide_eq_false (show ¬ n < s.base + (j + 1) by omega)]
        · rw [hdt, hbl, hlen]
          rfl
    · rintro σ H' ⟨y, kv, rfl, mv, hd, hs, hlen⟩
      have A2 := aA.mv mv (role_ne (by omega))
      have ni : ¬ imm = ((i, 3, 3) : Role) := fun z => by cases congrArg (fun r : Role => r.2.1) z
      have hcap : s.dropTo t (s.next - s.base) ≤ s.next - s.base := by
        unfold Sn.dropTo
        exact Nat.le_trans (List.length_filter_le _ _) (by rw [List.length_range]; exact Nat.le_refl _)
      dsimp only
      have e1 : EvX (tOp (rI0 fun i j => V.int (i - j)) (tCB (fun xs H Q => ∃ p kvs, xs = [V.ref p] ∧ H p = some (.dK kvs) ∧ Q (.int kvs.length) H) (tCons (tFld K (tVar 0) "dropped") tNil)) (tVar 2)) [some (.ref a), some (.int t), some (.int kd.length), y] H' (.int ((kv.length : Int) - (kd.length : Int))) := by
        refine x_i0 (fun Q' q' => x_fld (x_v 0) A2.2 cl (no_Sender_dropped T) lk_Sender_dropped _ ⟨dd, kv, rfl, hd, q'⟩) (x_v 2)
      refine e1 _ ?_
      have ec : ((kv.length : Int) - (kd.length : Int)) = (s.dropCnt t : Nat) := by
        have : s.dropCnt t = s.dropTo t (s.next - s.base) := rfl
        rw [this]
        omega
      rw [ec]
      refine k H' mv ⟨dx, l, da, dd, ps, ka, kv, A2, aL.mv mv (role_ne (by omega)), aD.mv mv (role_ne (by omega)), ⟨aE.1, hd⟩, Paired.mapP hP fun q x p => ItAt.mv p mv ni, hA, fun n => ?_, by omega, by omega⟩
      rw [hs n]
      dsimp only
      show _ = (s.dropped n || below t s n)
      congr 1
      by_cases c : below t s n = true
      · have c' := c
        unfold below at c'
        have h1 := of_decide_eq_true (Bool.and_eq_true_iff.mp (Bool.and_eq_true_iff.mp c').1).2
        rw [c, decide_eq_true (show n < s.base + (s.next - s.base) by omega)]
        rfl
      · rw [Bool.not_eq_true] at c
        rw [c]
        rfl
def spMove (C : Cs) : Sp := fun vs H Q _ => ∃ (g : Gh) (i : Nat) (a fa : Addr) (W M : Nat) (s : Sn) (b : Nat) (c : Ch), vs = [.ref a] ∧ SnAt C g H i a fa W M s b ∧ SnOk s ∧ 0 < M ∧ ChAt C g H i 1 fa c ∧ ChOk c ∧
  ∀ g' H', Mv (fun r => Part i 1 r ∨ r = (i, 3, 0)) g H g' H' → SnAt C g' H' i a fa W M ((Sn.adv (s.next - s.base) s).fill W M c).1 b → ChAt C g' H' i 1 fa ((Sn.adv (s.next - s.base) s).fill W M c).2 → Q (.int ((Sn.adv (s.next - s.base) s).room W : Nat)) H'
theorem m_move_window (T : Txt K mg C) : C8.Met P w K mg base 7 C.Sender "move_window" (spMove C) [] := by
  have cA : C8.Met P w K mg base 1 C.Sender "advance_base" (spAdv C) [] := m_advance T
  have cF : C8.Met P w K mg base 6 C.Sender "fill_window" (spFill C) [] := m_fill T
  have cl := T.k_Sender.cl
  refine df_m T.m_Sender_move_window sc_Sender_move_window (fun vs H Q E h => ?_) (fun f cdv A outer s H vs Q E hr h => ?_)
  · obtain ⟨_, _, _, _, _, _, _, _, _, rfl, _⟩ := h
    rfl
  · obtain ⟨g, i, a, fa, W, M, s, b, c, rfl, hS, ok, hM, hC, okc, k⟩ := h
    refine ⟨_, pss_cons (ps_expr (C8.pe_mt0 cA hr (by decide) (pv 0))) (pss_one (ps_ret (C8.pe_mt0 cF hr (by decide) (pv 0)))), ?_⟩
    have hS0 := hS
    obtain ⟨dx, l, da, dd, ps, ka, kd, aA, _⟩ := hS0
    refine y_drop (x_meth (x_v 0) aA.2 nm_Sender_advance_base x_nil ⟨g, i, a, fa, W, M, s, b, rfl, hS, ok, fun H1 mv1 hS1 => ?_⟩)
    have hS10 := hS1
    obtain ⟨dx1, l1, da1, dd1, ps1, ka1, kd1, aA1, _⟩ := hS10
    dsimp only
    refine x_meth (x_v 0) aA1.2 nm_Sender_fill_window x_nil ⟨g, i, a, fa, W, M, _, b, c, rfl, hS1, adv_ok ok _, hM, hC.mv mv1 (fun n z => by cases congrArg (fun r : Role => r.2.1) z), okc, fun g2 H2 mv2 hS2 hC2 => ?_⟩
    exact k g2 H2 ((mv1.mono fun r z => .inr z).trans mv2) hS2 hC2
end
end W170

namespace W170
open PySem PySem.Spec PyProof.Rows L2
/-! ### a link -/
def LkAt (C : Cs) (g : Gh) (H : Hp) (i : Nat) (a : Addr) (m : Lk) (b : Nat) : Prop := ∃ dx fa ca sa ra, At g H (i, 0, 0) a (.ins C.Link dx (F_Link (.bl m.safe) (.ref fa) (.ref ca) (.ref sa) (.ref ra))) ∧
  ChAt C g H i 1 fa m.fr ∧ ChAt C g H i 2 ca m.ac ∧ SnAt C g H i sa fa m.W m.M m.sn b ∧ RcAt C g H i ra m.W m.M m.ord m.rc
structure LkOk (m : Lk) (b : Nat) : Prop where
  fr : ChOk m.fr
  ac : ChOk m.ac
  sn : SnOk m.sn
  rc : RcOk m.rc b
  w1 : 1 ≤ m.W
  w8 : m.W ≤ 8
  m0 : 0 < m.M
  bnd : ∀ n, (m.rc.rcv n).isSome = true → n < m.rc.x + m.W
/-- and what the calls of the second stage need besides -/
structure LkAll (m : Lk) (b : Nat) : Prop extends LkOk m b where
  fl : 1 ≤ m.fr.life
  al : 1 ≤ m.ac.life
  its : ∀ it ∈ m.sn.items, isItemB it = true
def LS (i : Nat) : Role → Prop := fun r => r.1 = i ∧ r.2.1 ≤ 4
theorem LkAt.mv {C : Cs} {S : Role → Prop} {g g' : Gh} {H H' : Hp} {i : Nat} {a : Addr} {m : Lk} {b : Nat} (h : LkAt C g H i a m b) (mv : Mv S g H g' H') (hs : ∀ j n, j ≤ 4 → ¬ S (i, j, n)) (hi : ¬ S imm) : LkAt C g' H' i a m b := by
  obtain ⟨dx, fa, ca, sa, ra, a1, a2, a3, a4, a5⟩ := h
  exact ⟨dx, fa, ca, sa, ra, a1.mv mv (hs _ _ (by decide)), a2.mv mv (fun n => hs _ n (by decide)), a3.mv mv (fun n => hs _ n (by decide)), a4.mv mv (fun n => hs _ n (by decide)) hi, a5.mv mv (fun n => hs _ n (by decide)) hi⟩
theorem LkAt.same {C : Cs} {g : Gh} {H H' : Hp} {i : Nat} {a : Addr} {m : Lk} {b : Nat} (h : LkAt C g H i a m b) (s : Same H H') : LkAt C g H' i a m b := h.mv (S := fun _ => False) (Mv.same s) (fun _ _ _ z => z) (fun z => z)
theorem LkAt.new {C : Cs} {g : Gh} {H : Hp} {i : Nat} {a p : Addr} {m : Lk} {b : Nat} {o : HO} (h : LkAt C g H i a m b) (np : H p = none) : LkAt C g (upd H p o) i a m b := h.same (same_new np)
theorem LkAt.more {C : Cs} {g : Gh} {H : Hp} {i : Nat} {a : Addr} {m : Lk} {b b' : Nat} (h : LkAt C g H i a m b) (l : b ≤ b') : LkAt C g H i a m b' := by
  obtain ⟨dx, fa, ca, sa, ra, a1, a2, a3, a4, a5⟩ := h
  exact ⟨dx, fa, ca, sa, ra, a1, a2, a3, a4.more l, a5⟩
theorem ls_part {i j : Nat} (h : j ≤ 4) : ∀ r, Part i j r → LS i r := fun r z => ⟨z.1, by rw [z.2]; exact h⟩
theorem imm_ls {i : Nat} : ¬ LS i imm := fun z => absurd z.2 (by decide)
theorem eq_ls {i j n : Nat} (h : j ≤ 4) : ∀ r, r = (i, j, n) → LS i r := fun r z => by rw [z]; exact ⟨rfl, h⟩
theorem imm_ne {i j n : Nat} (h : j ≠ 9) : ¬ imm = ((i, j, n) : Role) := fun z => h (congrArg (fun r : Role => r.2.1) z).symm
theorem ne_part {i j j' n n' : Nat} (h : j' ≠ j) : ¬ ((i, j', n') : Role) = (i, j, n) := fun z => h (congrArg (fun r : Role => r.2.1) z)
/-! ### the calls on one link, as plain functions -/
def mSend (m : Lk) (it : List Int) : Lk × List Int := if isItemB it = false then (m, [-3]) else if 120 ≤ m.sn.items.length then (m, [-8]) else
  let s1 : Sn := { m.sn with items := m.sn.items ++ [it] }
  ({ m with sn := (s1.fill m.W m.M m.fr).1, fr := (s1.fill m.W m.M m.fr).2 }, [(m.sn.items.length : Int), ((s1.room m.W : Nat) : Int)])
def mRetr (m : Lk) (z : Int) : Lk × List Int := if m.sn.awaits z = false then (m, [-6]) else ({ m with fr := m.fr.send (m.sn.frame m.M z.toNat) }, [if m.sn.dropped z.toNat = true then 0 else 1])
def mDelF (m : Lk) (k st : Int) : Lk × List Int := match refuse m.fr k st with
  | [] => match m.fr.pk[k.toNat]? with
    | none => (m, [])
    | some p => let r := frameStep m.W m.M m.ord m.rc p.fs (decide (p.ck = Vbtwad.checksumOf p.fs))
      ({ m with fr := if st = 0 then m.fr.erase k.toNat else m.fr, rc := r.1 }, [(r.2 : Int), (r.1.del.length : Int) - (m.rc.del.length : Int)])
  | e => (m, e)
def mLoseF (m : Lk) (k : Int) : Lk × List Int := ({ m with fr := (m.fr.loseOp k).1 }, (m.fr.loseOp k).2)
def mCorF (m : Lk) (k i z : Int) : Lk × List Int := ({ m with fr := (m.fr.corOp k i z).1 }, (m.fr.corOp k i z).2)
def mSendA (m : Lk) : Lk × List Int := ({ m with ac := m.ac.send (m.rc.ack m.W m.M) }, ((m.rc.ack m.W m.M).length : Int) :: m.rc.ack m.W m.M)
def mDelA (m : Lk) (k st : Int) : Lk × List Int := match refuse m.ac k st with
  | [] => match m.ac.pk[k.toNat]? with
    | none => (m, [])
    | some p => let s1 := m.sn.recvA m.M p.fs (decide (p.ck = Vbtwad.checksumOf p.fs))
      let s2 := Sn.adv (s1.1.next - s1.1.base) s1.1
      ({ m with ac := if st = 0 then m.ac.erase k.toNat else m.ac, sn := (s2.fill m.W m.M m.fr).1, fr := (s2.fill m.W m.M m.fr).2 }, [(s1.2 : Int), ((s2.fill m.W m.M m.fr).1.base : Int), ((s2.room m.W : Nat) : Int)])
  | e => (m, e)
def mLoseA (m : Lk) (k : Int) : Lk × List Int := ({ m with ac := (m.ac.loseOp k).1 }, (m.ac.loseOp k).2)
def mCorA (m : Lk) (k i z : Int) : Lk × List Int := ({ m with ac := (m.ac.corOp k i z).1 }, (m.ac.corOp k i z).2)
def mListF (m : Lk) : Lk × List Int := (m, pkList m.fr)
/-- what a call on link i promises: f its plain function, xs its numbers -/
def SpLk (K : PySem.W.Frag) (C : Cs) (f : Lk → List Int → Lk × List Int) (n : Nat) : Sp := fun vs H Q _ => ∃ (g : Gh) (i : Nat) (a l : Addr) (m : Lk) (b : Nat) (xs : List Int), vs = [.ref a, .ref l] ∧ LkAt C g H i a m b ∧ LkAll m b ∧ b ≤ 8000000 ∧ xs.length = n ∧ SqL K H l (xs.map V.int) ∧ g l = imm ∧
  ∀ g' H' p, Mv (LS i) g H g' H' → H p = none → LkAt C g' H' i a (f m xs).1 (b + 50000) → H' p = some (.lst ((f m xs).2.map V.int)) → Q (.ref p) H'
section
variable {P : Program} {w : World} {K : PySem.W.Frag} {mg : Str → Option Value} {base : Heap} {C : Cs}
theorem c_lose_frame (T : Txt K mg C) : C8.Cal P w K mg base 3 "lose_frame" (SpLk K C (fun m xs => mLoseF m (xs.getD 0 0)) 1) [] := by
  have cL : C8.Cal P w K mg base 2 "lose_packet" (spLosePk K C) [] := c_lose T
  have cl := T.k_Link.cl
  refine df_g T.g_lose_frame sc_lose_frame (fun vs H Q E h => ?_) (fun f cdv A outer s H vs Q E hr h => ?_)
  · obtain ⟨_, _, _, _, _, _, _, rfl, _⟩ := h
    rfl
  · obtain ⟨g, i, a, l, m, b, xs, rfl, hL, ok, hb, hx, hl, gl, k⟩ := h
    refine ⟨_, pss_one (ps_ret (C8.pe_c cL hr (by decide) (by rfl) (pa_cons (pe_fld (pv 0) rfl) (pa_cons (pv 1) pa_nil)))), ?_⟩
    obtain ⟨x, rfl⟩ : ∃ x, xs = [x] := by
      match xs, hx with
      | [x], _ => exact ⟨x, rfl⟩
    obtain ⟨dx, fa, ca, sa, ra, aA, hF, hA, hS, hR⟩ := hL
    refine x_call (x_cons (x_fld (x_v 0) aA.2 cl (no_Link_frames T) lk_Link_frames) (x_cons (x_v 1) x_nil)) ?_
    refine ⟨g, i, 1, fa, l, m.fr, x, rfl, hF, ok.fr, hl, by rw [gl]; exact part_imm (by decide), fun H' p mv np hc hp => ?_⟩
    refine k g H' p (mv.mono (ls_part (by decide))) np ⟨dx, fa, ca, sa, ra, aA.mv mv (part_ne (by decide)), hc, hA.mv mv (fun _ => part_ne (by decide)), (hS.mv mv (fun _ => part_ne (by decide)) (part_imm (by decide))).more (by omega), hR.mv mv (fun _ => part_ne (by decide)) (part_imm (by decide))⟩ hp
theorem c_lose_ack (T : Txt K mg C) : C8.Cal P w K mg base 3 "lose_ack" (SpLk K C (fun m xs => mLoseA m (xs.getD 0 0)) 1) [] := by
  have cL : C8.Cal P w K mg base 2 "lose_packet" (spLosePk K C) [] := c_lose T
  have cl := T.k_Link.cl
  refine df_g T.g_lose_ack sc_lose_ack (fun vs H Q E h => ?_) (fun f cdv A outer s H vs Q E hr h => ?_)
  · obtain ⟨_, _, _, _, _, _, _, rfl, _⟩ := h
    rfl
  · obtain ⟨g, i, a, l, m, b, xs, rfl, hL, ok, hb, hx, hl, gl, k⟩ := h
    refine ⟨_, pss_one (ps_ret (C8.pe_c cL hr (by decide) (by rfl) (pa_cons (pe_fld (pv 0) rfl) (pa_cons (pv 1) pa_nil)))), ?_⟩
    obtain ⟨x, rfl⟩ : ∃ x, xs = [x] := by
      match xs, hx with
      | [x], _ => exact ⟨x, rfl⟩
    obtain ⟨dx, fa, ca, sa, ra, aA, hF, hA, hS, hR⟩ := hL
    refine x_call (x_cons (x_fld (x_v 0) aA.2 cl (no_Link_acks T) lk_Link_acks) (x_cons (x_v 1) x_nil)) ?_
    refine ⟨g, i, 2, ca, l, m.ac, x, rfl, hA, ok.ac, hl, by rw [gl]; exact part_imm (by decide), fun H' p mv np hc hp => ?_⟩
    refine k g H' p (mv.mono (ls_part (by decide))) np ⟨dx, fa, ca, sa, ra, aA.mv mv (part_ne (by decide)), hF.mv mv (fun _ => part_ne (by decide)), hc, (hS.mv mv (fun _ => part_ne (by decide)) (part_imm (by decide))).more (by omega), hR.mv mv (fun _ => part_ne (by decide)) (part_imm (by decide))⟩ hp
theorem c_corrupt_frame (T : Txt K mg C) : C8.Cal P w K mg base 3 "corrupt_frame" (SpLk K C (fun m xs => mCorF m (xs.getD 0 0) (xs.getD 1 0) (xs.getD 2 0)) 3) [] := by
  have cL : C8.Cal P w K mg base 2 "corrupt_packet" (spCorPk K C) [] := c_corrupt T
  have cl := T.k_Link.cl
  refine df_g T.g_corrupt_frame sc_corrupt_frame (fun vs H Q E h => ?_) (fun f cdv A outer s H vs Q E hr h => ?_)
  · obtain ⟨_, _, _, _, _, _, _, rfl, _⟩ := h
    rfl
  · obtain ⟨g, i, a, l, m, b, xs, rfl, hL, ok, hb, hx, hl, gl, k⟩ := h
    refine ⟨_, pss_one (ps_ret (C8.pe_c cL hr (by decide) (by rfl) (pa_cons (pe_fld (pv 0) rfl) (pa_cons (pv 1) pa_nil)))), ?_⟩
    obtain ⟨x, y, z, rfl⟩ : ∃ x y z, xs = [x, y, z] := by
      match xs, hx with
      | [x, y, z], _ => exact ⟨x, y, z, rfl⟩
    obtain ⟨dx, fa, ca, sa, ra, aA, hF, hA, hS, hR⟩ := hL
    refine x_call (x_cons (x_fld (x_v 0) aA.2 cl (no_Link_frames T) lk_Link_frames) (x_cons (x_v 1) x_nil)) ?_
    refine ⟨g, i, 1, fa, l, m.fr, x, y, z, rfl, hF, ok.fr, hl, by rw [gl]; exact part_imm (by decide), fun H' p mv np hc hp => ?_⟩
    refine k g H' p (mv.mono (ls_part (by decide))) np ⟨dx, fa, ca, sa, ra, aA.mv mv (part_ne (by decide)), hc, hA.mv mv (fun _ => part_ne (by decide)), (hS.mv mv (fun _ => part_ne (by decide)) (part_imm (by decide))).more (by omega), hR.mv mv (fun _ => part_ne (by decide)) (part_imm (by decide))⟩ hp
theorem c_corrupt_ack (T : Txt K mg C) : C8.Cal P w K mg base 3 "corrupt_ack" (SpLk K C (fun m xs => mCorA m (xs.getD 0 0) (xs.getD 1 0) (xs.getD 2 0)) 3) [] := by
  have cL : C8.Cal P w K mg base 2 "corrupt_packet" (spCorPk K C) [] := c_corrupt T
  have cl := T.k_Link.cl
  refine df_g T.g_corrupt_ack sc_corrupt_ack (fun vs H Q E h => ?_) (fun f cdv A outer s H vs Q E hr h => ?_)
  · obtain ⟨_, _, _, _, _, _, _, rfl, _⟩ := h
    rfl
  · obtain ⟨g, i, a, l, m, b, xs, rfl, hL, ok, hb, hx, hl, gl, k⟩ := h
    refine ⟨_, pss_one (ps_ret (C8.pe_c cL hr (by decide) (by rfl) (pa_cons (pe_fld (pv 0) rfl) (pa_cons (pv 1) pa_nil)))), ?_⟩
    obtain ⟨x, y, z, rfl⟩ : ∃ x y z, xs = [x, y, z] := by
      match xs, hx with
      | [x, y, z], _ => exact ⟨x, y, z, rfl⟩
    obtain ⟨dx, fa, ca, sa, ra, aA, hF, hA, hS, hR⟩ := hL
    refine x_call (x_cons (x_fld (x_v 0) aA.2 cl (no_Link_acks T) lk_Link_acks) (x_cons (x_v 1) x_nil)) ?_
    refine ⟨g, i, 2, ca, l, m.ac, x, y, z, rfl, hA, ok.ac, hl, by rw [gl]; exact part_imm (by decide), fun H' p mv np hc hp => ?_⟩
    refine k g H' p (mv.mono (ls_part (by decide))) np ⟨dx, fa, ca, sa, ra, aA.mv mv (part_ne (by decide)), hF.mv mv (fun _ => part_ne (by decide)), hc, (hS.mv mv (fun _ => part_ne (by decide)) (part_imm (by decide))).more (by omega), hR.mv mv (fun _ => part_ne (by decide)) (part_imm (by decide))⟩ hp
theorem c_list_frames (T : Txt K mg C) : C8.Cal P w K mg base 3 "list_frames" (SpLk K C (fun m _ => mListF m) 0) [] := by
  have cL : C8.Cal P w K mg base 2 "packet_list" (spPkList C) [] := c_packet_list T
  have cl := T.k_Link.cl
  refine df_g T.g_list_frames sc_list_frames (fun vs H Q E h => ?_) (fun f cdv A outer s H vs Q E hr h => ?_)
  · obtain ⟨_, _, _, _, _, _, _, rfl, _⟩ := h
    rfl
  · obtain ⟨g, i, a, l, m, b, xs, rfl, hL, ok, hb, hx, hl, gl, k⟩ := h
    refine ⟨_, pss_one (ps_ret (C8.pe_c cL hr (by decide) (by rfl) (pa_cons (pe_fld (pv 0) rfl) pa_nil))), ?_⟩
    have hL0 := hL
    obtain ⟨dx, fa, ca, sa, ra, aA, hF, hA, hS, hR⟩ := hL
    refine x_call (x_cons (x_fld (x_v 0) aA.2 cl (no_Link_frames T) lk_Link_frames) x_nil) ?_
    exact ⟨g, i, 1, fa, m.fr, rfl, hF, ok.fr, fun H' p sm np hp => k g H' p (Mv.same sm) np ((hL0.same sm).more (by omega)) hp⟩
/-! retransmit, send_ack -/
theorem c_retransmit (T : Txt K mg C) : C8.Cal P w K mg base 6 "retransmit" (SpLk K C (fun m xs => mRetr m (xs.getD 0 0)) 1) [] := by
  have cA : C8.Met P w K mg base 2 C.Sender "awaits_acknowledgement" (spAwaits C) [] := m_awaits T
  have cS : C8.Met P w K mg base 5 C.Sender "send_frame" (spSendFr C) [] := m_send_frame T
  have cH : C8.Met P w K mg base 1 C.Sender "has_content" (spHasC C) [] := m_has_content T
  have cl := T.k_Link.cl
  refine df_g T.g_retransmit sc_retransmit (fun vs H Q E h => ?_) (fun f cdv A outer s H vs Q E hr h => ?_)
  · obtain ⟨_, _, _, _, _, _, _, rfl, _⟩ := h
    rfl
  · obtain ⟨g, i, a, l, m, b, xs, rfl, hL, ok, hb, hx, hl, gl, k⟩ := h
    refine ⟨_, pss_cons (ps_set (i := 2) sc_retransmit.nd rfl (.inl rfl) (pe_ix ix_list (pv 1) pe_int (fun _ _ => rfl)))
      (pss_cons (ps_if (pt_not (pt_val (C8.pe_mt cA hr (by decide) (pe_fld (pv 0) rfl) (pa_cons (pv 2) pa_nil)))) (pss_one (ps_ret (pe_lst (pa_cons (pe_gi T.n_NOT_AWAITED) pa_nil)))) pss_nil)
      (pss_cons (ps_expr (C8.pe_mt cS hr (by decide) (pe_fld (pv 0) rfl) (pa_cons (pv 2) pa_nil)))
      (pss_one (ps_ret (pe_lst (pa_cons (pe_ifExp (pt_val (C8.pe_mt cH hr (by decide) (pe_fld (pv 0) rfl) (pa_cons (pv 2) pa_nil))) pe_int pe_int) pa_nil)))))), ?_⟩
    obtain ⟨z, rfl⟩ : ∃ x, xs = [x] := by
      match xs, hx with
      | [x], _ => exact ⟨x, rfl⟩
    have hL0 := hL
    obtain ⟨dx, fa, ca, sa, ra, aA, hF, hA, hS, hR⟩ := hL
    have hS0 := hS
    obtain ⟨dxs, l1, da, dd, ps, ka, kd, sA, _⟩ := hS0
    refine y_asg (x_ix (n := 0) (x_v 1) x_c hl rfl) ?_
    refine y_if (x_not (x_B fun Q' q' => x_meth (x_fld (x_v 0) aA.2 cl (no_Link_sender T) lk_Link_sender) sA.2 nm_Sender_awaits_acknowledgement (x_cons (x_v 2) x_nil) ⟨g, i, sa, fa, m.W, m.M, m.sn, b, z, rfl, hS, q'⟩)) (fun e => ?_) (fun e => ?_)
    · rw [Bool.not_eq_true'] at e
      have ef : mRetr m z = (m, [-6]) := if_pos e
      refine y_retl (x_cons x_c x_nil) (by show 1 ≤ 1000; decide) fun p np => k g _ p (Mv.new' np) np ?_ ?_
      · show LkAt C g _ i a (mRetr m z).1 _
        rw [ef]
        exact (hL0.new np).more (by omega)
      · show _ = some (HO.lst ((mRetr m z).2.map V.int))
        rw [ef, upd_same]
        rfl
    · rw [Bool.not_eq_false'] at e
      have ef : mRetr m z = ({ m with fr := m.fr.send (m.sn.frame m.M z.toNat) }, [if m.sn.dropped z.toNat = true then 0 else 1]) := if_neg (by rw [e]; exact fun h => Bool.noConfusion h)
      obtain ⟨e1, e2⟩ := Bool.and_eq_true_iff.mp e
      obtain ⟨e3, e4⟩ := Bool.and_eq_true_iff.mp e1
      have z0 := of_decide_eq_true e3
      have z1 := of_decide_eq_true e4
      have ez : z = ((z.toNat : Nat) : Int) := by omega
      have nx := ok.sn.nx
      dsimp only [tNext]
      refine y_drop (x_meth (x_fld (x_v 0) aA.2 cl (no_Link_sender T) lk_Link_sender) sA.2 nm_Sender_send_frame (x_cons (x_v 2) x_nil) ⟨g, i, sa, fa, m.W, m.M, m.sn, b, z.toNat, m.fr, by rw [← ez]; rfl, hS, ok.sn, by omega, ok.m0, hF, ok.fr, fun g1 H1 mv hF1 => ?_⟩)
      have hL1 : LkAt C g1 H1 i a { m with fr := m.fr.send (m.sn.frame m.M z.toNat) } b := ⟨dx, fa, ca, sa, ra, aA.mv mv (part_ne (by decide)), hF1, hA.mv mv (fun _ => part_ne (by decide)), hS.mv mv (fun _ => part_ne (by decide)) (part_imm (by decide)), hR.mv mv (fun _ => part_ne (by decide)) (part_imm (by decide))⟩
      have hL2 := hL1
      obtain ⟨dx2, fa2, ca2, sa2, ra2, aA2, hF2, hA2, hS2, hR2⟩ := hL2
      have hS3 := hS2
      obtain ⟨dxs3, l3, da3, dd3, ps3, ka3, kd3, sA3, _⟩ := hS3
      have ev : EvX (tIf (tB (tMeth C.Sender "has_content" (spHasC C) [] C8.E0 (tFld K (tVar 0) "sender") (tCons (tVar 2) tNil))) (tC (V.int 1)) (tC (V.int 0))) [some (V.ref a), some (V.ref l), some (V.int z)] H1 (V.int (if m.sn.dropped z.toNat = true then 0 else 1)) := by
        refine x_if (a := !(m.sn.dropped z.toNat)) (x_B fun Q' q' => x_meth (x_fld (x_v 0) aA2.2 cl (no_Link_sender T) lk_Link_sender) sA3.2 nm_Sender_has_content (x_cons (x_v 2) x_nil) ⟨g1, i, sa2, fa2, m.W, m.M, m.sn, b, z.toNat, by rw [← ez]; rfl, hS2, q'⟩) (fun h => ?_) (fun h => ?_)
        · rw [Bool.not_eq_true'] at h
          rw [h, if_neg Bool.false_ne_true]
          exact x_c
        · rw [Bool.not_eq_false'] at h
          rw [if_pos h]
          exact x_c
      refine y_retl (x_cons ev x_nil) (by show 1 ≤ 1000; decide) fun p np => k g1 _ p ((mv.mono (ls_part (by decide))).trans (Mv.new' np)) (mv.free np) ?_ ?_
      · show LkAt C g1 _ i a (mRetr m z).1 _
        rw [ef]
        exact (hL1.new np).more (by omega)
      · show _ = some (HO.lst ((mRetr m z).2.map V.int))
        rw [ef, upd_same]
        rfl
end
end W170

namespace W170
open PySem PySem.Spec PyProof.Rows L2
theorem ack_len (r : Rc) {W M : Nat} (h : 1 ≤ W) (h8 : W ≤ 8) : 1 ≤ (r.ack W M).length ∧ (r.ack W M).length ≤ 100 := by
  unfold Rc.ack
  rw [List.length_cons, List.length_map, List.length_range]
  omega
theorem ok_items {s : Sn} (o : SnOk s) {it : List Int} (h : 1 ≤ it.length ∧ it.length ≤ 20) (hl : s.items.length < 120) : SnOk { s with items := s.items ++ [it] } where
  len := fun x hx => by
    rcases List.mem_append.mp hx with q | q
    · exact o.len x q
    · rw [List.mem_singleton.mp q]
      exact h
  few := by
    show (s.items ++ [it]).length ≤ 120
    rw [List.length_append]
    show s.items.length + 1 ≤ 120
    omega
  le := o.le
  nx := by
    show s.next ≤ (s.items ++ [it]).length
    rw [List.length_append]
    have := o.nx
    omega
  ackin := o.ackin
theorem item_len {it : List Int} (h : isItemB it = true) : 1 ≤ it.length ∧ it.length ≤ 20 := by
  unfold isItemB at h
  by_cases a : it.length = 7
  · omega
  · rw [if_neg a] at h
    by_cases b : it.length = 3
    · omega
    · rw [if_neg b] at h
      cases h
theorem part1_ls {i : Nat} : ∀ r, (Part i 1 r ∨ r = ((i, 3, 0) : Role)) → LS i r := fun r z => z.elim (ls_part (by decide) r) (eq_ls (by decide) r)
theorem no1 {i j n : Nat} (h1 : j ≠ 1) (h3 : j ≠ 3) : ¬ (Part i 1 (i, j, n) ∨ ((i, j, n) : Role) = (i, 3, 0)) := fun z => z.elim (part_ne h1) (ne_part h3)
/-- send_item's promise -/
def spSendItem (K : PySem.W.Frag) (C : Cs) : Sp := fun vs H Q _ => ∃ (g : Gh) (i : Nat) (a l p : Addr) (m : Lk) (b : Nat) (it : List Int), vs = [.ref a, .ref l] ∧ LkAt C g H i a m b ∧ LkAll m b ∧ b ≤ 8000000 ∧ H l = some (.lst [.ref p]) ∧ g l = imm ∧ ItAt g H p it ∧
  ∀ g' H' p, Mv (LS i) g H g' H' → H p = none → LkAt C g' H' i a (mSend m it).1 (b + 50000) → H' p = some (.lst ((mSend m it).2.map V.int)) → Q (.ref p) H'
section
variable {P : Program} {w : World} {K : PySem.W.Frag} {mg : Str → Option Value} {base : Heap} {C : Cs}
theorem c_send_item (T : Txt K mg C) : C8.Cal P w K mg base 7 "send_item" (spSendItem K C) [] := by
  have cI : C8.Cal P w K mg base 2 "is_item" (spIsItem K) [] := c_is_item T
  have cA : C8.Met P w K mg base 1 C.Sender "add_item" (spAddItem C) [] := m_add_item T
  have cF : C8.Met P w K mg base 6 C.Sender "fill_window" (spFill C) [] := m_fill T
  have cl := T.k_Link.cl
  have clS := T.k_Sender.cl
  refine df_g T.g_send_item sc_send_item (fun vs H Q E h => ?_) (fun f cdv A outer s H vs Q E hr h => ?_)
  · obtain ⟨_, _, _, _, _, _, _, _, rfl, _⟩ := h
    rfl
  · obtain ⟨g, i, a, l, p, m, b, it, rfl, hL, ok, hb, hl, gl, hI, k⟩ := h
    refine ⟨_, pss_cons (ps_set (i := 2) sc_send_item.nd rfl (.inl rfl) (pe_ix ix_list (pv 1) pe_int (fun _ _ => rfl)))
      (pss_cons (ps_if (pt_not (pt_val (C8.pe_c cI hr (by decide) (by rfl) (pa_cons (pv 2) pa_nil)))) (pss_one (ps_ret (pe_lst (pa_cons (pe_gi T.n_NO_ITEM) pa_nil)))) pss_nil)
      (pss_cons (ps_set (i := 3) sc_send_item.nd rfl (.inl rfl) (pe_ln T.b_len (pe_fld (pe_fld (pv 0) rfl) rfl)))
      (pss_cons (ps_if (pt_cmpR op_ge (pv 3) (pe_gi T.n_ITEM_LIMIT) (nomark _)) (pss_one (ps_ret (pe_lst (pa_cons (pe_gi T.n_FULL) pa_nil)))) pss_nil)
      (pss_cons (ps_expr (C8.pe_mt cA hr (by decide) (pe_fld (pv 0) rfl) (pa_cons (pv 2) pa_nil)))
      (pss_one (ps_ret (pe_lst (pa_cons (pv 3) (pa_cons (C8.pe_mt0 cF hr (by decide) (pe_fld (pv 0) rfl)) pa_nil))))))))), ?_⟩
    refine y_asg (x_ix (n := 0) (x_v 1) x_c (.of hl) rfl) ?_
    refine x_call (x_cons (x_v 2) x_nil) ?_
    refine ⟨p, it, rfl, .of hI.2, fun H1 sm => ⟨_, rfl, ?_⟩⟩
    have hL1 := hL.same sm
    refine if_c (fun e => ?_) (fun e => ?_)
    · rw [Bool.not_eq_true'] at e
      have ef : mSend m it = (m, [-3]) := if_pos e
      refine y_retl (x_cons x_c x_nil) (by show 1 ≤ 1000; decide) fun p np => k g _ p ((Mv.same sm).trans (Mv.new' np)) (sm.free np) ?_ ?_
      · rw [ef]
        exact (hL1.new np).more (by omega)
      · rw [ef, upd_same]
        rfl
    · rw [Bool.not_eq_false'] at e
      have ne : ¬ isItemB it = false := by rw [e]; exact fun h => Bool.noConfusion h
      have hL10 := hL1
      obtain ⟨dx, fa, ca, sa, ra, aA, hF, hA, hS, hR⟩ := hL1
      have hS0 := hS
      obtain ⟨dxs, l1, da, dd, ps, ka, kd, sA, sL, sD, sE, sP, sRest⟩ := hS0
      have lps := Paired.length sP
      dsimp only [tNext]
      have eN : EvX (tCB (rLn K) (tCons (tFld K (tFld K (tVar 0) "sender") "all_items") tNil)) [some (.ref a), some (.ref l), some (.ref p), none] H1 (.int (ps.map V.ref).length) := x_len (x_fld (x_fld (x_v 0) aA.2 cl (no_Link_sender T) lk_Link_sender) sA.2 clS (no_Sender_all_items T) lk_Sender_all_items) (.of sL.2)
      rw [List.length_map, lps] at eN
      refine y_asg eN ?_
      dsimp only
      refine y_if (x_test (x_i0 (x_v 3) x_c)) (fun e2 => ?_) (fun e2 => ?_)
      · have e3 := of_decide_eq_true e2
        have ef : mSend m it = (m, [-8]) := by
          unfold mSend
          rw [if_neg ne, if_pos (by omega)]
        refine y_retl (x_cons x_c x_nil) (by show 1 ≤ 1000; decide) fun p np => k g _ p ((Mv.same sm).trans (Mv.new' np)) (sm.free np) ?_ ?_
        · rw [ef]
          exact (hL10.new np).more (by omega)
        · rw [ef, upd_same]
          rfl
      · have e3 := of_decide_eq_false e2
        have hlt : m.sn.items.length < 120 := by omega
        have okI := ok_items ok.sn (item_len e) hlt
        have ef : mSend m it = ({ m with sn := (({ m.sn with items := m.sn.items ++ [it] } : Sn).fill m.W m.M m.fr).1, fr := (({ m.sn with items := m.sn.items ++ [it] } : Sn).fill m.W m.M m.fr).2 }, [(m.sn.items.length : Int), ((({ m.sn with items := m.sn.items ++ [it] } : Sn).room m.W : Nat) : Int)]) := by
          unfold mSend
          rw [if_neg ne, if_neg (by omega)]
        dsimp only [tNext]
        refine y_drop (x_meth (x_fld (x_v 0) aA.2 cl (no_Link_sender T) lk_Link_sender) sA.2 nm_Sender_add_item (x_cons (x_v 2) x_nil) ⟨g, i, sa, fa, p, m.W, m.M, m.sn, b, it, rfl, hS, At.same hI sm, by omega, fun H2 mv2 hS2 => ?_⟩)
        have aA2 := aA.mv mv2 (ne_part (by decide))
        have hF2 := hF.mv mv2 (fun _ => ne_part (by decide))
        have hA2 := hA.mv mv2 (fun _ => ne_part (by decide))
        have hR2 := hR.mv mv2 (fun _ => ne_part (by decide)) (imm_ne (by decide))
        have hS20 := hS2
        obtain ⟨dx2, l2, da2, dd2, ps2, ka2, kd2, sA2, _⟩ := hS20
        refine ⟨_, rfl, ?_⟩
        refine x_meth (x_fld (x_v 0) aA2.2 cl (no_Link_sender T) lk_Link_sender) sA2.2 nm_Sender_fill_window x_nil ?_
        refine ⟨g, i, sa, fa, m.W, m.M, _, b, m.fr, rfl, hS2, okI, ok.m0, hF2, ok.fr, fun g3 H3 mv3 hS3 hF3 => ⟨by show 2 ≤ sizeLine; decide, fun o no => ?_⟩⟩
        have mvA : Mv (LS i) g H g3 H3 := (Mv.same sm).trans ((mv2.mono (eq_ls (by decide))).trans (mv3.mono part1_ls))
        have hL3 : LkAt C g3 H3 i a (mSend m it).1 b := by
          rw [ef]
          exact ⟨dx, fa, ca, sa, ra, aA2.mv mv3 (no1 (by decide) (by decide)), hF3, hA2.mv mv3 (fun _ => no1 (by decide) (by decide)), hS3, hR2.mv mv3 (fun _ => no1 (by decide) (by decide)) (fun z => z.elim (part_imm (by decide)) (imm_ne (by decide)))⟩
        refine k g3 _ o (mvA.trans (Mv.new' no)) (mvA.free no) ((hL3.new no).more (by omega)) ?_
        rw [ef, upd_same]
        rfl
theorem c_send_ack (T : Txt K mg C) : C8.Cal P w K mg base 5 "send_ack" (SpLk K C (fun m _ => mSendA m) 0) [] := by
  have cA : C8.Met P w K mg base 1 C.Receiver "ack_fields" (spAckF C) [] := m_ack_fields T
  have cS : C8.Met P w K mg base 4 C.Channel "send" (spChSend C) [] := m_Channel_send T
  have cT : C8.Cal P w K mg base 1 "told_list" spTold [] := c_told_list T
  have cl := T.k_Link.cl
  refine df_g T.g_send_ack sc_send_ack (fun vs H Q E h => ?_) (fun f cdv A outer s H vs Q E hr h => ?_)
  · obtain ⟨_, _, _, _, _, _, _, rfl, _⟩ := h
    rfl
  · obtain ⟨g, i, a, l, m, b, xs, rfl, hL, ok, hb, hx, hl, gl, k⟩ := h
    refine ⟨_, pss_cons (ps_set (i := 2) sc_send_ack.nd rfl (.inl rfl) (C8.pe_mt0 cA hr (by decide) (pe_fld (pv 0) rfl)))
      (pss_cons (ps_expr (C8.pe_mt cS hr (by decide) (pe_fld (pv 0) rfl) (pa_cons (pv 2) pa_nil)))
      (pss_one (ps_ret (C8.pe_c cT hr (by decide) (by rfl) (pa_cons (pv 2) pa_nil))))), ?_⟩
    obtain ⟨dx, fa, ca, sa, ra, aA, hF, hA, hS, hR⟩ := hL
    have hR0 := hR
    obtain ⟨dxr, d, lr, kvs, ps, rA, _⟩ := hR0
    refine x_meth (x_fld (x_v 0) aA.2 cl (no_Link_receiver T) lk_Link_receiver) rA.2 nm_Receiver_ack_fields x_nil ?_
    refine ⟨g, i, ra, m.W, m.M, m.ord, m.rc, rfl, hR, ok.w8, ok.m0, fun H1 p sm np hp => ?_⟩
    -- the tag of the new list: the fields of the packet that is made
    have mv1 : ∀ {S : Role → Prop}, Mv S g H (tagAt g p (i, 2, 2 * m.ac.sent + 3)) H1 := Mv.sameTag sm np _
    have aA1 := aA.mv (S := fun _ => False) mv1 (fun z => z)
    have hA1 := hA.mv (S := fun _ => False) mv1 (fun _ z => z)
    have hA10 := hA1
    obtain ⟨dxc, lc, qs, cA1, _⟩ := hA10
    have al := ack_len m.rc (M := m.M) ok.w1 ok.w8
    refine y_drop (x_meth (x_fld (x_v 0) aA1.2 cl (no_Link_acks T) lk_Link_acks) cA1.2 nm_Channel_send (x_cons (x_v 2) x_nil) ?_)
    refine ⟨_, i, 2, ca, p, m.ac, m.rc.ack m.W m.M, rfl, hA1, ok.ac, ⟨tag_same, hp⟩, al.2, fun g2 H2 mv2 hA2 hp2 => ?_⟩
    have mvA : Mv (Part i 2) g H g2 H2 := mv1.trans mv2
    -- the fields' list is the packet's now: still as it was
    dsimp only
    refine x_call (x_cons (x_v 2) x_nil) ⟨p, _, rfl, hp2, by omega, fun H3 o sm3 no ho => ?_⟩
    have hL2 : LkAt C g2 H2 i a (mSendA m).1 b := ⟨dx, fa, ca, sa, ra, aA.mv mvA (part_ne (by decide)), hF.mv mvA (fun _ => part_ne (by decide)), hA2, hS.mv mvA (fun _ => part_ne (by decide)) (part_imm (by decide)), hR.mv mvA (fun _ => part_ne (by decide)) (part_imm (by decide))⟩
    exact k g2 _ o ((mvA.mono (ls_part (by decide))).trans (Mv.same sm3)) (mvA.free no) ((hL2.same sm3).more (by omega)) ho
end
end W170

namespace W170
open PySem PySem.Spec PyProof.Rows L2
theorem refuse_nil {c : Ch} {k st : Int} (h : refuse c k st = []) : (0 ≤ st ∧ st ≤ 1) ∧ 0 ≤ k ∧ k.toNat < c.pk.length ∧ k = ((k.toNat : Nat) : Int) := by
  unfold refuse at h
  by_cases a : st < 0 ∨ 1 < st
  · rw [if_pos a] at h
    cases h
  · rw [if_neg a] at h
    by_cases b : inB k c.pk.length = true
    · obtain ⟨b1, b2⟩ := Bool.and_eq_true_iff.mp b
      have := of_decide_eq_true b1
      have := of_decide_eq_true b2
      omega
    · rw [if_neg b] at h
      cases h
section
variable {P : Program} {w : World} {K : PySem.W.Frag} {mg : Str → Option Value} {base : Heap} {C : Cs}
theorem c_deliver_frame (T : Txt K mg C) : C8.Cal P w K mg base 4 "deliver_frame" (SpLk K C (fun m xs => mDelF m (xs.getD 0 0) (xs.getD 1 0)) 2) [] := by
  have cR : C8.Cal P w K mg base 2 "refused_delivery" (spRefused K C) [] := c_refused T
  have cT : C8.Cal P w K mg base 2 "taken_packet" (spTaken K C) [] := c_taken T
  have cV : C8.Met P w K mg base 3 C.Receiver "receive_frame" (spRcv K C) [] := m_receive_frame T
  have cl := T.k_Link.cl
  have clR := T.k_Receiver.cl
  refine df_g T.g_deliver_frame sc_deliver_frame (fun vs H Q E h => ?_) (fun f cdv A outer s H vs Q E hr h => ?_)
  · obtain ⟨_, _, _, _, _, _, _, rfl, _⟩ := h
    rfl
  · obtain ⟨g, i, a, l, m, b, xs, rfl, hL, ok, hb, hx, hl, gl, k⟩ := h
    refine ⟨_, pss_cons (ps_set (i := 2) sc_deliver_frame.nd rfl (.inl rfl) (C8.pe_c cR hr (by decide) (by rfl) (pa_cons (pe_fld (pv 0) rfl) (pa_cons (pv 1) pa_nil))))
      (pss_cons (ps_if (pt_truth (pv 2) (by intro _; rfl)) (pss_one (ps_ret (pv 2))) pss_nil)
      (pss_cons (ps_set (i := 3) sc_deliver_frame.nd rfl (.inl rfl) (pe_ln T.b_len (pe_fld (pe_fld (pv 0) rfl) rfl)))
      (pss_cons (ps_set (i := 4) sc_deliver_frame.nd rfl (.inl rfl) (C8.pe_mt cV hr (by decide) (pe_fld (pv 0) rfl) (pa_cons (C8.pe_c cT hr (by decide) (by rfl) (pa_cons (pe_fld (pv 0) rfl) (pa_cons (pv 1) pa_nil))) pa_nil)))
      (pss_one (ps_ret (pe_lst (pa_cons (pv 4) (pa_cons (pe_op op_sub (pe_ln T.b_len (pe_fld (pe_fld (pv 0) rfl) rfl)) (pv 3)) pa_nil)))))))), ?_⟩
    obtain ⟨x, st, rfl⟩ : ∃ x y, xs = [x, y] := by
      match xs, hx with
      | [x, y], _ => exact ⟨x, y, rfl⟩
    have hL0 := hL
    obtain ⟨dx, fa, ca, sa, ra, aA, hF, hA, hS, hR⟩ := hL
    refine x_call (x_cons (x_fld (x_v 0) aA.2 cl (no_Link_frames T) lk_Link_frames) (x_cons (x_v 1) x_nil)) ?_
    refine ⟨g, i, 1, fa, l, m.fr, x, st, rfl, hF, hl, fun H1 p sm np hp => ?_⟩
    have hL1 := hL0.same sm
    refine ⟨_, rfl, _, .inl ⟨_, .of hp, rfl⟩, if_c (fun e => ?_) (fun e => ?_)⟩
    · have ne : refuse m.fr x st ≠ [] := fun z => by rw [z] at e; exact Bool.noConfusion e
      have ef : mDelF m x st = (m, refuse m.fr x st) := by
        unfold mDelF
        split
        · rename_i z
          exact absurd z ne
        · rfl
      refine y_ret (x_v 2) (k g H1 p (Mv.same sm) np ?_ ?_)
      · show LkAt C g _ i a (mDelF m x st).1 _
        rw [ef]
        exact hL1.more (by omega)
      · show _ = some (HO.lst ((mDelF m x st).2.map V.int))
        rw [ef]
        exact hp
    · have nl : refuse m.fr x st = [] := by
        cases z : refuse m.fr x st with
        | nil => rfl
        | cons u v =>
          rw [z] at e
          exact Bool.noConfusion e
      obtain ⟨hst, x0, xlt, ex⟩ := refuse_nil nl
      obtain ⟨pk, hpk⟩ : ∃ pk, m.fr.pk[x.toNat]? = some pk := ⟨_, List.getElem?_eq_getElem xlt⟩
      have ef : mDelF m x st = ({ m with fr := if st = 0 then m.fr.erase x.toNat else m.fr, rc := (frameStep m.W m.M m.ord m.rc pk.fs (decide (pk.ck = Vbtwad.checksumOf pk.fs))).1 }, [((frameStep m.W m.M m.ord m.rc pk.fs (decide (pk.ck = Vbtwad.checksumOf pk.fs))).2 : Int), ((frameStep m.W m.M m.ord m.rc pk.fs (decide (pk.ck = Vbtwad.checksumOf pk.fs))).1.del.length : Int) - (m.rc.del.length : Int)]) := by
        unfold mDelF
        rw [nl, hpk]
      dsimp only [tNext]
      obtain ⟨dx1, fa1, ca1, sa1, ra1, aA1, hF1, hA1, hS1, hR1⟩ := hL1
      have hR10 := hR1
      obtain ⟨dxr, d, lr, kvs, ps, rA, rD, rL, rk, rV, rP⟩ := hR10
      have eN : EvX (tCB (rLn K) (tCons (tFld K (tFld K (tVar 0) "receiver") "delivered") tNil)) [some (.ref a), some (.ref l), some (.ref p), none, none] H1 (.int (ps.map V.ref).length) := x_len (x_fld (x_fld (x_v 0) aA1.2 cl (no_Link_receiver T) lk_Link_receiver) rA.2 clR (no_Receiver_delivered T) lk_Receiver_delivered) (.of rL.2)
      rw [List.length_map, Paired.length rP] at eN
      refine y_asg eN ?_
      dsimp only
      refine ⟨_, rfl, a, C.Link, dx1, _, _, rfl, aA1.2, cl, no_Link_receiver T, lk_Link_receiver, ra1, dxr, _, rfl, rA.2, nm_Receiver_receive_frame, ?_⟩
      refine x_call (x_cons (x_fld (x_v 0) aA1.2 cl (no_Link_frames T) lk_Link_frames) (x_cons (x_v 1) x_nil)) ?_
      refine ⟨g, i, 1, fa1, l, m.fr, x.toNat, st, pk, rfl, hF1, ok.fr, by rw [← ex]; exact sm.seq hl, by rw [gl]; exact imm_ne (by decide), hpk, fun H2 q mv2 hF2 hq => ?_⟩
      have hR2 := hR1.mv mv2 (fun _ => ne_part (by decide)) (imm_ne (by decide))
      refine ⟨g, i, ra1, q, m.W, m.M, m.ord, m.rc, pk, b, rfl, hR2, hq, ok.fr.len pk (List.mem_of_getElem? hpk), ok.rc, by omega, ok.w8, ok.m0, ok.bnd, fun g3 H3 mv3 hR3 => ?_⟩
      have aA3 := (aA1.mv mv2 (ne_part (by decide))).mv mv3 (part_ne (by decide))
      have hL3 : LkAt C g3 H3 i a (mDelF m x st).1 b := by
        rw [ef]
        exact ⟨dx1, fa1, ca1, sa1, ra1, aA3, hF2.mv mv3 (fun _ => part_ne (by decide)), (hA1.mv mv2 (fun _ => ne_part (by decide))).mv mv3 (fun _ => part_ne (by decide)), (hS1.mv mv2 (fun _ => ne_part (by decide)) (imm_ne (by decide))).mv mv3 (fun _ => part_ne (by decide)) (part_imm (by decide)), hR3⟩
      have hR30 := hR3
      obtain ⟨dxr3, d3, lr3, kvs3, ps3, rA3, rD3, rL3, rk3, rV3, rP3⟩ := hR30
      have eN3 : EvX (tOp (rI0 fun i j => V.int (i - j)) (tCB (rLn K) (tCons (tFld K (tFld K (tVar 0) "receiver") "delivered") tNil)) (tVar 3)) [some (.ref a), some (.ref l), some (.ref p), some (.int m.rc.del.length), some (.int ((frameStep m.W m.M m.ord m.rc pk.fs (decide (pk.ck = Vbtwad.checksumOf pk.fs))).2 : Nat))] H3 (.int (((ps3.map V.ref).length : Int) - (m.rc.del.length : Int))) := x_i0 (x_len (x_fld (x_fld (x_v 0) aA3.2 cl (no_Link_receiver T) lk_Link_receiver) rA3.2 clR (no_Receiver_delivered T) lk_Receiver_delivered) (.of rL3.2)) (x_v 3)
      rw [List.length_map, Paired.length rP3] at eN3
      dsimp only
      refine y_retl (x_cons (x_v 4) (x_cons eN3 x_nil)) (by show 2 ≤ 1000; decide) fun o no => ?_
      have mvA : Mv (LS i) g H g3 H3 := (Mv.same sm).trans ((mv2.mono (eq_ls (by decide))).trans (mv3.mono (ls_part (by decide))))
      refine k g3 _ o (mvA.trans (Mv.new' no)) (mvA.free no) ((hL3.new no).more (by omega)) ?_
      show _ = some (HO.lst ((mDelF m x st).2.map V.int))
      rw [ef, upd_same]
      rfl
theorem c_deliver_ack (T : Txt K mg C) : C8.Cal P w K mg base 8 "deliver_ack" (SpLk K C (fun m xs => mDelA m (xs.getD 0 0) (xs.getD 1 0)) 2) [] := by
  have cR : C8.Cal P w K mg base 2 "refused_delivery" (spRefused K C) [] := c_refused T
  have cT : C8.Cal P w K mg base 2 "taken_packet" (spTaken K C) [] := c_taken T
  have cV : C8.Met P w K mg base 3 C.Sender "receive_ack" (spRAck K C) [] := m_receive_ack T
  have cM : C8.Met P w K mg base 7 C.Sender "move_window" (spMove C) [] := m_move_window T
  have cl := T.k_Link.cl
  have clS := T.k_Sender.cl
  refine df_g T.g_deliver_ack sc_deliver_ack (fun vs H Q E h => ?_) (fun f cdv A outer s H vs Q E hr h => ?_)
  · obtain ⟨_, _, _, _, _, _, _, rfl, _⟩ := h
    rfl
  · obtain ⟨g, i, a, l, m, b, xs, rfl, hL, ok, hb, hx, hl, gl, k⟩ := h
    refine ⟨_, pss_cons (ps_set (i := 2) sc_deliver_ack.nd rfl (.inl rfl) (C8.pe_c cR hr (by decide) (by rfl) (pa_cons (pe_fld (pv 0) rfl) (pa_cons (pv 1) pa_nil))))
      (pss_cons (ps_if (pt_truth (pv 2) (by intro _; rfl)) (pss_one (ps_ret (pv 2))) pss_nil)
      (pss_cons (ps_set (i := 3) sc_deliver_ack.nd rfl (.inl rfl) (C8.pe_mt cV hr (by decide) (pe_fld (pv 0) rfl) (pa_cons (C8.pe_c cT hr (by decide) (by rfl) (pa_cons (pe_fld (pv 0) rfl) (pa_cons (pv 1) pa_nil))) pa_nil)))
      (pss_cons (ps_set (i := 4) sc_deliver_ack.nd rfl (.inl rfl) (C8.pe_mt0 cM hr (by decide) (pe_fld (pv 0) rfl)))
      (pss_one (ps_ret (pe_lst (pa_cons (pv 3) (pa_cons (pe_fld (pe_fld (pv 0) rfl) rfl) (pa_cons (pv 4) pa_nil))))))))), ?_⟩
    obtain ⟨x, st, rfl⟩ : ∃ x y, xs = [x, y] := by
      match xs, hx with
      | [x, y], _ => exact ⟨x, y, rfl⟩
    have hL0 := hL
    obtain ⟨dx, fa, ca, sa, ra, aA, hF, hA, hS, hR⟩ := hL
    refine x_call (x_cons (x_fld (x_v 0) aA.2 cl (no_Link_acks T) lk_Link_acks) (x_cons (x_v 1) x_nil)) ?_
    refine ⟨g, i, 2, ca, l, m.ac, x, st, rfl, hA, hl, fun H1 p sm np hp => ?_⟩
    have hL1 := hL0.same sm
    refine ⟨_, rfl, _, .inl ⟨_, .of hp, rfl⟩, if_c (fun e => ?_) (fun e => ?_)⟩
    · have ne : refuse m.ac x st ≠ [] := fun z => by rw [z] at e; exact Bool.noConfusion e
      have ef : mDelA m x st = (m, refuse m.ac x st) := by
        unfold mDelA
        split
        · rename_i z
          exact absurd z ne
        · rfl
      refine y_ret (x_v 2) (k g H1 p (Mv.same sm) np ?_ ?_)
      · show LkAt C g _ i a (mDelA m x st).1 _
        rw [ef]
        exact hL1.more (by omega)
      · show _ = some (HO.lst ((mDelA m x st).2.map V.int))
        rw [ef]
        exact hp
    · have nl : refuse m.ac x st = [] := by
        cases z : refuse m.ac x st with
        | nil => rfl
        | cons u v =>
          rw [z] at e
          exact Bool.noConfusion e
      obtain ⟨hst, x0, xlt, ex⟩ := refuse_nil nl
      obtain ⟨pk, hpk⟩ : ∃ pk, m.ac.pk[x.toNat]? = some pk := ⟨_, List.getElem?_eq_getElem xlt⟩
      generalize hs1 : m.sn.recvA m.M pk.fs (decide (pk.ck = Vbtwad.checksumOf pk.fs)) = s1
      have ef : mDelA m x st = ({ m with ac := if st = 0 then m.ac.erase x.toNat else m.ac, sn := ((Sn.adv (s1.1.next - s1.1.base) s1.1).fill m.W m.M m.fr).1, fr := ((Sn.adv (s1.1.next - s1.1.base) s1.1).fill m.W m.M m.fr).2 }, [(s1.2 : Int), (((Sn.adv (s1.1.next - s1.1.base) s1.1).fill m.W m.M m.fr).1.base : Int), (((Sn.adv (s1.1.next - s1.1.base) s1.1).room m.W : Nat) : Int)]) := by
        unfold mDelA
        rw [nl, hpk, ← hs1]
      dsimp only [tNext]
      obtain ⟨dx1, fa1, ca1, sa1, ra1, aA1, hF1, hA1, hS1, hR1⟩ := hL1
      have hS10 := hS1
      obtain ⟨dxs, l1, da, dd, ps, ka, kd, sA, _⟩ := hS10
      refine ⟨_, rfl, a, C.Link, dx1, _, _, rfl, aA1.2, cl, no_Link_sender T, lk_Link_sender, sa1, dxs, _, rfl, sA.2, nm_Sender_receive_ack, ?_⟩
      refine x_call (x_cons (x_fld (x_v 0) aA1.2 cl (no_Link_acks T) lk_Link_acks) (x_cons (x_v 1) x_nil)) ?_
      refine ⟨g, i, 2, ca1, l, m.ac, x.toNat, st, pk, rfl, hA1, ok.ac, by rw [← ex]; exact sm.seq hl, by rw [gl]; exact imm_ne (by decide), hpk, fun H2 q mv2 hA2 hq => ?_⟩
      have hS2 := hS1.mv mv2 (fun _ => ne_part (by decide)) (imm_ne (by decide))
      refine ⟨g, i, sa1, fa1, q, m.W, m.M, m.sn, b, pk, rfl, hS2, ok.sn, hq, ok.ac.len pk (List.mem_of_getElem? hpk), ok.m0, by omega, fun H3 mv3 hS3 => ?_⟩
      rw [hs1] at hS3 ⊢
      have ok3 : SnOk s1.1 := by
        rw [← hs1]
        exact (recvA_ok ok.sn _ _ _).1
      have aA3 := (aA1.mv mv2 (ne_part (by decide))).mv mv3 (ne_part (by decide))
      have hS30 := hS3
      obtain ⟨dxs3, l3, da3, dd3, ps3, ka3, kd3, sA3, _⟩ := hS30
      have hF3 := (hF1.mv mv2 (fun _ => ne_part (by decide))).mv mv3 (fun _ => ne_part (by decide))
      refine x_meth (x_fld (x_v 0) aA3.2 cl (no_Link_sender T) lk_Link_sender) sA3.2 nm_Sender_move_window x_nil ?_
      refine ⟨g, i, sa1, fa1, m.W, m.M, s1.1, b + 300, m.fr, rfl, hS3, ok3, ok.m0, hF3, ok.fr, fun g5 H5 mv5 hS5 hF5 => ?_⟩
      have aA5 := aA3.mv mv5 (no1 (by decide) (by decide))
      have mvB : Mv (fun r => r.1 = i ∧ (r.2.1 = 1 ∨ r.2.1 = 3)) g H2 g5 H5 := (mv3.mono fun r z => by rw [z]; exact ⟨rfl, .inr rfl⟩).trans (mv5.mono fun r z => z.elim (fun y => ⟨y.1, .inl y.2⟩) fun y => by rw [y]; exact ⟨rfl, .inr rfl⟩)
      have hR5 := (hR1.mv mv2 (fun _ => ne_part (by decide)) (imm_ne (by decide))).mv mvB (fun n z => by rcases z.2 with y | y <;> cases y) (fun z => by rcases z.2 with y | y <;> cases y)
      have hL5 : LkAt C g5 H5 i a (mDelA m x st).1 (b + 300) := by
        rw [ef]
        exact ⟨dx1, fa1, ca1, sa1, ra1, aA5, hF5, hA2.mv mvB (fun n z => by rcases z.2 with y | y <;> cases y), hS5, hR5⟩
      have hS50 := hS5
      obtain ⟨dxs5, l5, da5, dd5, ps5, ka5, kd5, sA5, _⟩ := hS50
      dsimp only
      refine y_retl (x_cons (x_v 3) (x_cons (x_fld (x_fld (x_v 0) aA5.2 cl (no_Link_sender T) lk_Link_sender) sA5.2 clS (no_Sender_base T) lk_Sender_base) (x_cons (x_v 4) x_nil))) (by show 3 ≤ 1000; decide) fun o no => ?_
      have mvA : Mv (LS i) g H g5 H5 := (Mv.same sm).trans ((mv2.mono (eq_ls (by decide))).trans (mvB.mono fun r z => ⟨z.1, by rcases z.2 with y | y <;> omega⟩))
      refine k g5 _ o (mvA.trans (Mv.new' no)) (mvA.free no) ((hL5.new no).more (by omega)) ?_
      show _ = some (HO.lst ((mDelA m x st).2.map V.int))
      rw [ef, upd_same]
      rfl
end
end W170

namespace W170
open PySem PySem.Spec PyProof.Rows L2
def newLk (W M K R : Nat) (ord : Bool) : Lk := ⟨W, M, ord, safeB W M K R, ⟨K, 0, []⟩, ⟨R, 0, []⟩, ⟨[], 0, 0, fun _ => false, fun _ => false⟩, ⟨0, fun _ => none, [], 0⟩⟩
section
variable {P : Program} {w : World} {K : PySem.W.Frag} {mg : Str → Option Value} {base : Heap} {C : Cs}
abbrev L0 (i : Nat) : Role → Prop := fun r => r = (i, 0, 0)
theorem made_free {H : Hp} {x dx C l : Addr} (h : (upd (upd H dx (.own x)) x (.ins C dx [])) l = none) : H l = none ∧ l ≠ x := by
  have n1 : l ≠ x := fun z => by
    rw [z, upd_same] at h
    cases h
  rw [upd_ne n1] at h
  have n2 : l ≠ dx := fun z => by
    rw [z, upd_same] at h
    cases h
  rw [upd_ne n2] at h
  exact ⟨h, n1⟩
/-- a channel that was just made -/
theorem ch_made {g : Gh} {H H2 : Hp} {i j : Nat} {x dx l : Addr} {life : Nat} (nx : H x = none) (ndx : H dx = none) (nl : (upd (upd H dx (.own x)) x (.ins C.Channel dx [])) l = none) (hx : H2 x = some (.ins C.Channel dx (F_Channel (.int life) (.int 0) (.ref l)))) (hl : H2 l = some (.lst []))
    (kp : ∀ b o, (upd (upd H dx (.own x)) x (.ins C.Channel dx [])) b = some o → b ≠ x → H2 b = some o) : ∃ g2, (∀ {S : Role → Prop}, Mv S g H g2 H2) ∧ ChAt C g2 H2 i j x ⟨life, 0, []⟩ := by
  obtain ⟨nl0, nlx⟩ := made_free nl
  have sm : Same H H2 := Same.made nx ndx kp
  refine ⟨tagAt (tagAt g x (i, j, 0)) l (i, j, 1), fun {S} => ⟨fun p o h => (tag_ne (ne_of_none h nl0)).trans (tag_ne (ne_of_none h nx)), fun p o h _ => sm p o h, fun p o h => ⟨o, sm p o h⟩⟩, dx, l, [], ⟨(tag_ne (Ne.symm nlx)).trans tag_same, hx⟩, ⟨tag_same, hl⟩, .nil⟩
theorem x_callL {σ : L2.St} {H : Hp} {sp : Sp} {dvs vs : List V} {E : XK} {t : TA} {Q : VK} (ha : EaX t σ H vs) (hn : vs.length ≤ 1000) (h : ∀ q, H q = none → sp ([.ref q] ++ dvs) (upd H q (.lst vs)) Q E) : tCall sp dvs E (tCons (tLst t) tNil) σ H Q := ha _ ⟨Nat.le_trans hn (by decide), fun q nq => h q nq⟩
def spLkInit (C : Cs) : Sp := fun vs H Q _ => ∃ (g : Gh) (i : Nat) (p dx : Addr) (W M k r : Nat) (o : Int), vs = [.ref p, .int W, .int M, .int k, .int r, .int o] ∧ H p = some (.ins C.Link dx []) ∧ g p = (i, 0, 0) ∧ r ≤ 12 ∧
  ∀ g' H', Mv (L0 i) g H g' H' → LkAt C g' H' i p (newLk W M k r (decide (o = 1))) 0 → Q .non H'
theorem k_Link (T : Txt K mg C) : C8.Mak P w K mg base 3 "Link" C.Link (spLkInit C) [] := by
  have cS : C8.Cal P w K mg base 2 "are_safe" (spSafe K) [] := c_are_safe T
  have cC : C8.Mak P w K mg base 1 "Channel" C.Channel (spChInit C) [] := k_Channel T
  have cN : C8.Mak P w K mg base 1 "Sender" C.Sender (spSnInit C) [] := k_Sender T
  have cR : C8.Mak P w K mg base 1 "Receiver" C.Receiver (spRcInit C) [] := k_Receiver T
  have cl := T.k_Link.cl
  refine df_c T.k_Link sc_Link_init (fun vs H Q E h => ?_) (fun f cdv A outer s H vs Q E hr h => ?_)
  · obtain ⟨_, _, _, _, _, _, _, _, _, rfl, _⟩ := h
    rfl
  · obtain ⟨g, i, p, dx, W, M, kf, r, o, rfl, hp, gp, hr12, kk⟩ := h
    refine ⟨_, pss_cons (ps_fld (pv 0) (C8.pe_c cS hr (by decide) (by rfl) (pa_cons (pe_lst (pa_cons (pv 1) (pa_cons (pv 2) (pa_cons (pv 3) (pa_cons (pv 4) (pa_cons (pv 5) pa_nil)))))) pa_nil)) rfl)
      (pss_cons (ps_fld (pv 0) (C8.pe_mk cC hr (by decide) (by rfl) (pa_cons (pv 3) pa_nil)) rfl)
      (pss_cons (ps_fld (pv 0) (C8.pe_mk cC hr (by decide) (by rfl) (pa_cons (pv 4) pa_nil)) rfl)
      (pss_cons (ps_fld (pv 0) (C8.pe_mk cN hr (by decide) (by rfl) (pa_cons (pv 1) (pa_cons (pv 2) (pa_cons (pe_fld (pv 0) rfl) pa_nil)))) rfl)
      (pss_one (ps_fld (pv 0) (C8.pe_mk cR hr (by decide) (by rfl) (pa_cons (pv 1) (pa_cons (pv 2) (pa_cons (pe_cmpR op_eq (pv 5) pe_int (nomark _)) pa_nil)))) rfl))))), ?_⟩
    -- self.safe
    have ea : EaX (tCons (tVar 1) (tCons (tVar 2) (tCons (tVar 3) (tCons (tVar 4) (tCons (tVar 5) tNil))))) (L2.start ["self", "w", "m", "k", "r", "o"] [V.ref p, V.int W, V.int M, V.int kf, V.int r, V.int o]) H [V.int W, V.int M, V.int kf, V.int r, V.int o] := x_cons (x_v 1) (x_cons (x_v 2) (x_cons (x_v 3) (x_cons (x_v 4) (x_cons (x_v 5) x_nil))))
    refine x_callL ea (by show 5 ≤ 1000; decide) fun q nq => ?_
    have hpq : (upd H q (.lst [V.int W, V.int M, V.int kf, V.int r, V.int o])) p = some (.ins C.Link dx []) := (upd_ne (ne_of_none hp nq)).trans hp
    refine ⟨q, W, M, kf, r, o, rfl, .of upd_same, ⟨by omega, by omega⟩, _, rfl, p, C.Link, dx, _, rfl, hpq, cl, no_Link_safe T, lt_nil (by decide), ?_⟩
    have m1 : Mv (L0 i) g H g (upd (upd H q (.lst [V.int W, V.int M, V.int kf, V.int r, V.int o])) p (.ins C.Link dx (putF "safe" (.bl (safeB W M kf r)) []))) := (Mv.new' nq).trans (Mv.set hpq gp)
    have hp1 : (upd (upd H q (.lst [V.int W, V.int M, V.int kf, V.int r, V.int o])) p (.ins C.Link dx (putF "safe" (.bl (safeB W M kf r)) []))) p = some (.ins C.Link dx (putF "safe" (.bl (safeB W M kf r)) [])) := upd_same
    generalize (upd (upd H q (.lst [V.int W, V.int M, V.int kf, V.int r, V.int o])) p (.ins C.Link dx (putF "safe" (.bl (safeB W M kf r)) []))) = H1 at m1 hp1
    -- self.frames
    dsimp only [tSeq, sFld]
    refine x_make (x_cons (x_v 3) x_nil) fun x2 d2 nx nd _ => ?_
    refine ⟨x2, d2, kf, rfl, upd_same, fun H2 l2 nl hx hl kp => ⟨rfl, ?_⟩⟩
    obtain ⟨g2, m2, ch2⟩ := ch_made (C := C) (g := g) (i := i) (j := 1) nx nd nl hx hl kp
    have m2' : Mv (L0 i) g H1 g2 H2 := m2
    have hp2 := (Same.made nx nd kp) _ _ hp1
    have gp2 : g2 p = (i, 0, 0) := (m2'.tag _ _ hp1).trans gp
    refine ⟨_, rfl, p, C.Link, dx, _, rfl, hp2, cl, no_Link_frames T, lt_put (n := 999) (lt_nil (by decide)), ?_⟩
    have m3 : Mv (L0 i) g2 H2 g2 (upd H2 p (.ins C.Link dx (putF "frames" (.ref x2) (putF "safe" (.bl (safeB W M kf r)) [])))) := Mv.set hp2 gp2
    have hp3 : (upd H2 p (.ins C.Link dx (putF "frames" (.ref x2) (putF "safe" (.bl (safeB W M kf r)) [])))) p = some (.ins C.Link dx (putF "frames" (.ref x2) (putF "safe" (.bl (safeB W M kf r)) []))) := upd_same
    generalize (upd H2 p (.ins C.Link dx (putF "frames" (.ref x2) (putF "safe" (.bl (safeB W M kf r)) [])))) = H3 at m3 hp3
    have ch3 := ch2.mv m3 (fun n => ne_part (by decide))
    -- self.acks
    refine x_make (x_cons (x_v 4) x_nil) fun x4 d4 nx4 nd4 _ => ?_
    refine ⟨x4, d4, r, rfl, upd_same, fun H4 l4 nl4 hx4 hl4 kp4 => ⟨rfl, ?_⟩⟩
    obtain ⟨g4, m4, ca4⟩ := ch_made (C := C) (g := g2) (i := i) (j := 2) nx4 nd4 nl4 hx4 hl4 kp4
    have m4' : Mv (L0 i) g2 H3 g4 H4 := m4
    have hp4 := (Same.made nx4 nd4 kp4) _ _ hp3
    have gp4 : g4 p = (i, 0, 0) := (m4'.tag _ _ hp3).trans gp2
    refine ⟨_, rfl, p, C.Link, dx, _, rfl, hp4, cl, no_Link_acks T, lt_put (n := 999) (lt_put (n := 998) (lt_nil (by decide))), ?_⟩
    have m5 : Mv (L0 i) g4 H4 g4 (upd H4 p (.ins C.Link dx (putF "acks" (.ref x4) (putF "frames" (.ref x2) (putF "safe" (.bl (safeB W M kf r)) []))))) := Mv.set hp4 gp4
    have hp5 : (upd H4 p (.ins C.Link dx (putF "acks" (.ref x4) (putF "frames" (.ref x2) (putF "safe" (.bl (safeB W M kf r)) []))))) p = some (.ins C.Link dx (putF "acks" (.ref x4) (putF "frames" (.ref x2) (putF "safe" (.bl (safeB W M kf r)) [])))) := upd_same
    generalize (upd H4 p (.ins C.Link dx (putF "acks" (.ref x4) (putF "frames" (.ref x2) (putF "safe" (.bl (safeB W M kf r)) []))))) = H5 at m5 hp5
    have ch5 := (ch3.mv m4' (fun n => ne_part (by decide))).mv m5 (fun n => ne_part (by decide))
    have ca5 := ca4.mv m5 (fun n => ne_part (by decide))
    -- self.sender
    have lkf : (putF "acks" (.ref x4) (putF "frames" (.ref x2) (putF "safe" (.bl (safeB W M kf r)) []))).lookup ("frames" : Str) = some (V.ref x2) := by
      rw [lookup_putF, if_neg (by decide +kernel), lookup_putF, if_pos rfl]
    refine x_make (x_cons (x_v 1) (x_cons (x_v 2) (x_cons (x_fld (x_v 0) hp5 cl (no_Link_frames T) lkf) x_nil))) fun x6 d6 nx6 nd6 _ => ?_
    refine ⟨x6, d6, x2, W, M, rfl, upd_same, fun H6 l6 da dd nl6 nda ndd ila ild iad hx6 hl6 hda hdd kp6 => ⟨rfl, ?_⟩⟩
    obtain ⟨l0, lx⟩ := made_free nl6
    obtain ⟨a0, ax⟩ := made_free nda
    obtain ⟨d0, dx0⟩ := made_free ndd
    have sm6 : Same H5 H6 := Same.made nx6 nd6 kp6
    have m6 : Mv (L0 i) g4 H5 (tagAt (tagAt (tagAt (tagAt g4 x6 (i, 3, 0)) l6 (i, 3, 1)) da (i, 3, 2)) dd (i, 3, 3)) H6 :=
      ⟨fun q u h => (tag_ne (ne_of_none h d0)).trans ((tag_ne (ne_of_none h a0)).trans ((tag_ne (ne_of_none h l0)).trans (tag_ne (ne_of_none h nx6)))), fun q u h _ => sm6 q u h, fun q u h => ⟨u, sm6 q u h⟩⟩
    have sn6 : SnAt C (tagAt (tagAt (tagAt (tagAt g4 x6 (i, 3, 0)) l6 (i, 3, 1)) da (i, 3, 2)) dd (i, 3, 3)) H6 i x6 x2 W M ⟨[], 0, 0, fun _ => false, fun _ => false⟩ 0 :=
      ⟨d6, l6, da, dd, [], [], [], ⟨(tag_ne (Ne.symm dx0)).trans ((tag_ne (Ne.symm ax)).trans ((tag_ne (Ne.symm lx)).trans tag_same)), hx6⟩, ⟨(tag_ne ild).trans ((tag_ne ila).trans tag_same), hl6⟩, ⟨(tag_ne iad).trans tag_same, hda⟩, ⟨tag_same, hdd⟩, .nil, fun _ => rfl, fun _ => rfl, Nat.le_refl _, Nat.le_refl _⟩
    generalize (tagAt (tagAt (tagAt (tagAt g4 x6 (i, 3, 0)) l6 (i, 3, 1)) da (i, 3, 2)) dd (i, 3, 3)) = g6 at m6 sn6
    have hp6 := sm6 _ _ hp5
    have gp6 : g6 p = (i, 0, 0) := (m6.tag _ _ hp5).trans gp4
    refine ⟨_, rfl, p, C.Link, dx, _, rfl, hp6, cl, no_Link_sender T, lt_put (n := 999) (lt_put (n := 998) (lt_put (n := 997) (lt_nil (by decide)))), ?_⟩
    have m7 : Mv (L0 i) g6 H6 g6 (upd H6 p (.ins C.Link dx (putF "sender" (.ref x6) (putF "acks" (.ref x4) (putF "frames" (.ref x2) (putF "safe" (.bl (safeB W M kf r)) [])))))) := Mv.set hp6 gp6
    have hp7 : (upd H6 p (.ins C.Link dx (putF "sender" (.ref x6) (putF "acks" (.ref x4) (putF "frames" (.ref x2) (putF "safe" (.bl (safeB W M kf r)) [])))))) p = some (.ins C.Link dx (putF "sender" (.ref x6) (putF "acks" (.ref x4) (putF "frames" (.ref x2) (putF "safe" (.bl (safeB W M kf r)) []))))) := upd_same
    generalize (upd H6 p (.ins C.Link dx (putF "sender" (.ref x6) (putF "acks" (.ref x4) (putF "frames" (.ref x2) (putF "safe" (.bl (safeB W M kf r)) [])))))) = H7 at m7 hp7
    have ch7 := (ch5.mv m6 (fun n => ne_part (by decide))).mv m7 (fun n => ne_part (by decide))
    have ca7 := (ca5.mv m6 (fun n => ne_part (by decide))).mv m7 (fun n => ne_part (by decide))
    have sn7 := sn6.mv m7 (fun n => ne_part (by decide)) (imm_ne (by decide))
    -- self.receiver
    have eo : EvX (tOp rEq (tVar 5) (tC (V.int 1))) (L2.start ["self", "w", "m", "k", "r", "o"] [V.ref p, V.int W, V.int M, V.int kf, V.int r, V.int o]) H7 (.bl (decide (o = 1))) := x_eqI (x_v 5) x_c
    refine x_make (x_cons (x_v 1) (x_cons (x_v 2) (x_cons eo x_nil))) fun x8 d8 nx8 nd8 _ => ?_
    refine ⟨x8, d8, W, M, decide (o = 1), rfl, upd_same, fun H8 d l nd8' nl8 idl hx8 hd8 hl8 kp8 => ⟨rfl, ?_⟩⟩
    obtain ⟨e0, ex⟩ := made_free nd8'
    obtain ⟨f0, fx⟩ := made_free nl8
    have sm8 : Same H7 H8 := Same.made nx8 nd8 kp8
    have m8 : Mv (L0 i) g6 H7 (tagAt (tagAt (tagAt g6 x8 (i, 4, 0)) d (i, 4, 1)) l (i, 4, 2)) H8 :=
      ⟨fun q u h => (tag_ne (ne_of_none h f0)).trans ((tag_ne (ne_of_none h e0)).trans (tag_ne (ne_of_none h nx8))), fun q u h _ => sm8 q u h, fun q u h => ⟨u, sm8 q u h⟩⟩
    have rc8 : RcAt C (tagAt (tagAt (tagAt g6 x8 (i, 4, 0)) d (i, 4, 1)) l (i, 4, 2)) H8 i x8 W M (decide (o = 1)) ⟨0, fun _ => none, [], 0⟩ :=
      ⟨d8, d, l, [], [], ⟨(tag_ne (Ne.symm fx)).trans ((tag_ne (Ne.symm ex)).trans tag_same), hx8⟩, ⟨(tag_ne idl).trans tag_same, hd8⟩, ⟨tag_same, hl8⟩, Nat.le_refl _, ⟨fun _ _ => rfl, fun _ _ h => by cases h⟩, .nil⟩
    generalize (tagAt (tagAt (tagAt g6 x8 (i, 4, 0)) d (i, 4, 1)) l (i, 4, 2)) = g8 at m8 rc8
    have hp8 := sm8 _ _ hp7
    have gp8 : g8 p = (i, 0, 0) := (m8.tag _ _ hp7).trans gp6
    refine ⟨_, rfl, p, C.Link, dx, _, rfl, hp8, cl, no_Link_receiver T, lt_put (n := 999) (lt_put (n := 998) (lt_put (n := 997) (lt_put (n := 996) (lt_nil (by decide))))), ?_⟩
    rw [new_Link]
    have m9 : Mv (L0 i) g8 H8 g8 (upd H8 p (.ins C.Link dx (F_Link (.bl (safeB W M kf r)) (.ref x2) (.ref x4) (.ref x6) (.ref x8)))) := Mv.set hp8 gp8
    refine kk g8 _ (m1.trans (m2'.trans (m3.trans (m4'.trans (m5.trans (m6.trans (m7.trans (m8.trans m9)))))))) ⟨dx, x2, x4, x6, x8, ⟨gp8, upd_same⟩, (ch7.mv m8 (fun n => ne_part (by decide))).mv m9 (fun n => ne_part (by decide)), (ca7.mv m8 (fun n => ne_part (by decide))).mv m9 (fun n => ne_part (by decide)), (sn7.mv m8 (fun n => ne_part (by decide)) (imm_ne (by decide))).mv m9 (fun n => ne_part (by decide)) (imm_ne (by decide)), rc8.mv m9 (fun n => ne_part (by decide)) (imm_ne (by decide))⟩
end
end W170

namespace W170
open PySem PySem.Spec PyProof.Rows L2
/-! ### what is in transit, as the program asks for it -/
theorem range_from {b n : Nat} (h : b ≤ n) (p : Nat → Bool) : (List.range n).filter (fun a => decide (b ≤ a) && p a) = ((List.range (n - b)).filter fun i => p (b + i)).map fun i => b + i := by
  obtain ⟨k, rfl⟩ : ∃ k, n = b + k := ⟨n - b, by omega⟩
  rw [List.range_add, List.filter_append, Nat.add_sub_cancel_left, List.filter_map]
  have e1 : (List.range b).filter (fun a => decide (b ≤ a) && p a) = [] := by
    rw [List.filter_eq_nil_iff]
    intro a ha
    have := List.mem_range.mp ha
    rw [decide_eq_false (show ¬ b ≤ a by omega)]
    exact Bool.false_ne_true
  rw [e1, List.nil_append]
  congr 1
  refine List.filter_congr fun i _ => ?_
  show (decide (b ≤ b + i) && p (b + i)) = p (b + i)
  rw [decide_eq_true (show b ≤ b + i by omega), Bool.true_and]
theorem trans2_unack {m : Lk} (h : m.sn.base ≤ m.sn.items.length) (ho : m.ord = false) : m.trans2 = m.sn.unack := by
  unfold Lk.trans2 Sn.unack
  rw [← range_from h fun n => !(m.sn.acked n)]
  refine List.filter_congr fun a _ => ?_
  unfold Lk.open2
  rw [ho]
  rfl
theorem trans2_ord {m : Lk} (h : m.sn.base ≤ m.sn.items.length) (ho : m.ord = true) : m.trans2 = (List.range (m.sn.items.length - m.sn.base)).map fun i => m.sn.base + i := by
  unfold Lk.trans2
  have e : (List.range m.sn.items.length).filter m.open2 = (List.range m.sn.items.length).filter fun a => decide (m.sn.base ≤ a) && true := by
    refine List.filter_congr fun a _ => ?_
    unfold Lk.open2
    rw [ho]
    rfl
  rw [e, range_from h fun _ => true]
  congr 1
  exact List.filter_eq_self.mpr fun _ _ => rfl
theorem trans1_len (m : Lk) : m.trans1.length ≤ m.sn.items.length := by
  unfold Lk.trans1
  exact Nat.le_trans (List.length_filter_le _ _) (by rw [List.length_range]; exact Nat.le_refl _)
theorem trans2_len (m : Lk) : m.trans2.length ≤ m.sn.items.length := by
  unfold Lk.trans2
  exact Nat.le_trans (List.length_filter_le _ _) (by rw [List.length_range]; exact Nat.le_refl _)
theorem trans1_lt {m : Lk} : ∀ n ∈ m.trans1, n < m.sn.items.length := fun n h => List.mem_range.mp (List.mem_filter.mp h).1
theorem trans2_lt {m : Lk} : ∀ n ∈ m.trans2, n < m.sn.items.length := fun n h => List.mem_range.mp (List.mem_filter.mp h).1
section
variable {P : Program} {w : World} {K : PySem.W.Frag} {mg : Str → Option Value} {base : Heap} {C : Cs}
def spTr (C : Cs) (f : Lk → List Nat) : Sp := fun vs H Q _ => ∃ (g : Gh) (i : Nat) (a : Addr) (m : Lk) (b : Nat), vs = [.ref a] ∧ LkAt C g H i a m b ∧ SnOk m.sn ∧ ∀ H' p, Same H H' → H p = none → H' p = some (.lst ((natI (f m)).map V.int)) → Q (.ref p) H'
theorem m_in_transit (T : Txt K mg C) : C8.Met P w K mg base 2 C.Link "in_transit" (spTr C Lk.trans1) [] := by
  have cD : C8.Met P w K mg base 1 C.Receiver "has_delivered" (spHasDel C) [] := m_has_delivered T
  have cl := T.k_Link.cl
  have clS := T.k_Sender.cl
  refine df_m T.m_Link_in_transit sc_Link_in_transit (fun vs H Q E h => ?_) (fun f cdv A outer s H vs Q E hr h => ?_)
  · obtain ⟨_, _, _, _, _, rfl, _⟩ := h
    rfl
  · obtain ⟨g, i, a, m, b, rfl, ⟨dx, fa, ca, sa, ra, aA, hF, hA, hS, hR⟩, ok, k⟩ := h
    refine ⟨_, pss_cons (ps_set (i := 1) sc_Link_in_transit.nd rfl (.inl rfl) (pe_ln T.b_len (pe_fld (pe_fld (pv 0) rfl) rfl)))
      (pss_one (ps_ret (pe_lc (own := [("number", 2)]) (g := gName 2) (tt := tNot (tB (tMeth C.Receiver "has_delivered" (spHasDel C) [] C8.E0 (tFld K (tVar 0) "receiver") (tCons (tVar 2) tNil)))) (te := tVar 2) rfl sc_Link_in_transit.nd (pi_range1 (by rfl) T.b_range (pa_cons (pv 1) pa_nil)) (blkOk_by (own := [("number", 2)]) (N := ["self", "item_count", "number"]) (sc := defScope s_Link_in_transit) (by decide +kernel)) (fun _ _ _ _ _ => pg_name (i := 2) sc_Link_in_transit.nd rfl (.inl rfl)) (fun _ _ _ _ _ => pts_one (pt_not (pt_val (C8.pe_mt cD hr (by decide) (pe_fld (pv 0) rfl) (pa_cons (pv 2) pa_nil))))) (fun _ _ _ _ _ => pv 2)))), ?_⟩
    have hS0 := hS
    obtain ⟨dxs, l, da, dd, ps, ka, kd, sA, sL, sD, sE, sP, sRest⟩ := hS0
    have hfew := ok.few
    have eN : EvX (tCB (rLn K) (tCons (tFld K (tFld K (tVar 0) "sender") "all_items") tNil)) (L2.start ["self", "item_count", "number"] [V.ref a]) H (.int (ps.map V.ref).length) := x_len (x_fld (x_fld (x_v 0) aA.2 cl (no_Link_sender T) lk_Link_sender) sA.2 clS (no_Sender_all_items T) lk_Sender_all_items) (.of sL.2)
    rw [List.length_map, Paired.length sP] at eN
    refine y_asg eN ?_
    refine ⟨_, rfl, _, rfl, by omega, by omega, fun D nD => ?_⟩
    have en : ((m.sn.items.length : Int)).toNat = m.sn.items.length := by omega
    rw [en]
    refine lc_rangeF m.open1 (fun i => (0 : Int) + (i : Nat)) nD (by omega) (fun _ => rfl) (fun j H' hj sm => ⟨?_, x_v 2⟩) (fun H' sm hD' => ?_)
    · have hR' := hR.mv (S := fun _ => False) (Mv.same sm) (fun _ z => z) (fun z => z)
      have hR0 := hR'
      obtain ⟨dxr, d, lr, kvs, ps2, rA, _⟩ := hR0
      exact x_not (x_B fun Q' q' => x_meth (x_fld (x_v 0) (sm _ _ aA.2) cl (no_Link_receiver T) lk_Link_receiver) rA.2 nm_Receiver_has_delivered (x_cons (x_v 2) x_nil) ⟨g, i, ra, m.W, m.M, m.ord, m.rc, j, by rw [Int.zero_add]; rfl, hR', q'⟩)
    · refine k H' D sm nD ?_
      rw [hD']
      have : ((List.range m.sn.items.length).filter m.open1).map (fun i => (0 : Int) + (i : Nat)) = natI m.trans1 := by
        unfold natI Lk.trans1
        refine List.map_congr_left fun i _ => ?_
        rw [Int.zero_add]
      rw [this]
theorem m_known (T : Txt K mg C) : C8.Met P w K mg base 2 C.Link "known_in_transit" (spTr C Lk.trans2) [] := by
  have cU : C8.Met P w K mg base 1 C.Sender "unacknowledged" (spUnack C) [] := m_unacknowledged T
  have cl := T.k_Link.cl
  have clS := T.k_Sender.cl
  have clR := T.k_Receiver.cl
  refine df_m T.m_Link_known_in_transit sc_Link_known_in_transit (fun vs H Q E h => ?_) (fun f cdv A outer s H vs Q E hr h => ?_)
  · obtain ⟨_, _, _, _, _, rfl, _⟩ := h
    rfl
  · obtain ⟨g, i, a, m, b, rfl, ⟨dx, fa, ca, sa, ra, aA, hF, hA, hS, hR⟩, ok, k⟩ := h
    refine ⟨_, pss_cons (ps_if (pt_val (pe_fld (pe_fld (pv 0) rfl) rfl)) (pss_one (ps_ret (pe_listRg rfl (by rfl) T.b_list (prg_2 (by rfl) T.b_range (pe_fld (pe_fld (pv 0) rfl) rfl) (pe_ln T.b_len (pe_fld (pe_fld (pv 0) rfl) rfl)))))) pss_nil)
      (pss_one (ps_ret (C8.pe_mt0 cU hr (by decide) (pe_fld (pv 0) rfl)))), ?_⟩
    have hS0 := hS
    obtain ⟨dxs, l, da, dd, ps, ka, kd, sA, sL, sD, sE, sP, sRest⟩ := hS0
    obtain ⟨dxr, d, lr, kvs, ps2, rA, _⟩ := hR
    have hfew := ok.few
    have hle := ok.le
    have hnx := ok.nx
    have hbl : m.sn.base ≤ m.sn.items.length := by omega
    refine y_if (x_B (x_fld (x_fld (x_v 0) aA.2 cl (no_Link_receiver T) lk_Link_receiver) rA.2 clR (no_Receiver_ordered T) lk_Receiver_ordered)) (fun e => ?_) (fun e => ?_)
    · have eB : EvX (tFld K (tFld K (tVar 0) "sender") "base") (L2.start ["self"] [V.ref a]) H (.int m.sn.base) := x_fld (x_fld (x_v 0) aA.2 cl (no_Link_sender T) lk_Link_sender) sA.2 clS (no_Sender_base T) lk_Sender_base
      have eN : EvX (tCB (rLn K) (tCons (tFld K (tFld K (tVar 0) "sender") "all_items") tNil)) (L2.start ["self"] [V.ref a]) H (.int (ps.map V.ref).length) := x_len (x_fld (x_fld (x_v 0) aA.2 cl (no_Link_sender T) lk_Link_sender) sA.2 clS (no_Sender_all_items T) lk_Sender_all_items) (.of sL.2)
      rw [List.length_map, Paired.length sP] at eN
      have er : ∀ R : Int → Int → Hp → Prop, R (m.sn.base : Int) (m.sn.items.length : Int) H → tRg2 (tFld K (tFld K (tVar 0) "sender") "base") (tCB (rLn K) (tCons (tFld K (tFld K (tVar 0) "sender") "all_items") tNil)) (L2.start ["self"] [V.ref a]) H R := fun R q => eB _ (eN _ ⟨_, _, rfl, rfl, q⟩)
      have el : ∀ Q' : VK, (∀ q, H q = none → Q' (.ref q) (upd H q (.lst (rgV m.sn.base m.sn.items.length)))) → tLstRg (tRg2 (tFld K (tFld K (tVar 0) "sender") "base") (tCB (rLn K) (tCons (tFld K (tFld K (tVar 0) "sender") "all_items") tNil))) (L2.start ["self"] [V.ref a]) H Q' := fun Q' q => er _ ⟨RgOk.of_le (by omega) (by omega) (by omega) (by omega), q⟩
      refine el _ fun q nq => k _ q (same_new nq) nq ?_
      rw [upd_same, trans2_ord hbl e]
      unfold rgV natI
      rw [show ((m.sn.items.length : Int) - (m.sn.base : Int)).toNat = m.sn.items.length - m.sn.base by omega, List.map_map, List.map_map]
      congr 2
    · dsimp only [tNext]
      refine x_meth (x_fld (x_v 0) aA.2 cl (no_Link_sender T) lk_Link_sender) sA.2 nm_Sender_unacknowledged x_nil ⟨g, i, sa, fa, m.W, m.M, m.sn, b, rfl, hS, hfew, hbl, fun H' p sm np hp => ?_⟩
      rw [← trans2_unack hbl e] at hp
      exact k H' p sm np hp
end
end W170

namespace W170
open PySem PySem.Spec PyProof.Rows L2
/-! ### one round of recovery -/
theorem ch_last {c : Ch} (h : 1 ≤ c.life) (fs : List Int) : (c.send fs).pk.getLast? = some (mkPk fs c.sent) := by
  show ((c.pk ++ [mkPk fs c.sent]).filter fun p => decide (c.sent + 1 ≤ p.ser + c.life)).getLast? = _
  rw [List.filter_append]
  have e : [mkPk fs c.sent].filter (fun p => decide (c.sent + 1 ≤ p.ser + c.life)) = [mkPk fs c.sent] := by
    rw [List.filter_cons, if_pos (decide_eq_true (by show c.sent + 1 ≤ c.sent + c.life; omega))]
    rfl
  rw [e, List.getLast?_append]
  rfl
theorem frame_bnd {W M : Nat} {ord : Bool} {r : Rc} (hb : ∀ n, (r.rcv n).isSome = true → n < r.x + W) (fs : List Int) : ∀ n, ((r.recv W M ord fs).1.rcv n).isSome = true → n < (r.recv W M ord fs).1.x + W := by
  unfold Rc.recv
  split
  · exact hb
  · rename_i n0 e
    obtain ⟨e1, e2, _⟩ := numMeant_some e
    split
    · exact hb
    · obtain ⟨_, h2, h3⟩ := pass_cnt ord W (r.put ord n0 (fs.drop 1))
      intro n h
      dsimp only at h ⊢
      rw [h2] at h
      have h' : (setO r.rcv n0 (fs.drop 1) n).isSome = true := h
      have h3' : r.x ≤ (Rc.pass ord W (r.put ord n0 (fs.drop 1))).x := h3
      unfold setO at h'
      by_cases z : n = n0
      · omega
      · rw [if_neg z] at h'
        have := hb n h'
        omega
theorem LkOk.more {m : Lk} {b b' : Nat} (o : LkOk m b) (h : b ≤ b') : LkOk m b' := ⟨o.fr, o.ac, o.sn, o.rc.more h, o.w1, o.w8, o.m0, o.bnd⟩
theorem again_ok {m : Lk} {b : Nat} (o : LkOk m b) (a : Nat) : LkOk (m.again a) (b + 9) :=
  ⟨(o.fr.send (frame_len o.sn m.M a)).pop, o.ac, o.sn, (frame_ok (M := m.M) (ord := m.ord) o.rc o.w8 (m.sn.frame m.M a) true).1, o.w1, o.w8, o.m0, frame_bnd o.bnd _⟩
theorem againAll_ok : ∀ (as : List Nat) {m : Lk} {b : Nat}, LkOk m b → LkOk (Lk.againAll as m) (b + 9 * as.length)
  | [], m, b, o => o
  | a :: r, m, b, o => by
    show LkOk (Lk.againAll r (if m.sn.acked a = true then m else m.again a)) (b + 9 * (r.length + 1))
    by_cases c : m.sn.acked a = true
    · rw [if_pos c]
      exact (againAll_ok r o).more (by omega)
    · rw [if_neg c]
      exact (againAll_ok r (again_ok o a)).more (by omega)
theorem ackNow_ok {m : Lk} {b : Nat} (o : LkOk m b) : LkOk m.ackNow b := by
  obtain ⟨o1, _, _, _⟩ := recvA_ok o.sn m.M (m.rc.ack m.W m.M) true
  have er : m.sn.recvA m.M (m.rc.ack m.W m.M) true = m.sn.recvAck m.M (m.rc.ack m.W m.M) := if_neg (fun h => Bool.noConfusion h)
  rw [er] at o1
  have o2 := adv_ok o1 ((m.sn.recvAck m.M (m.rc.ack m.W m.M)).1.next - (m.sn.recvAck m.M (m.rc.ack m.W m.M)).1.base)
  obtain ⟨o3, oc3⟩ := fill_okk m.W m.M o2 o.fr
  exact ⟨oc3, (o.ac.send (ack_len m.rc o.w1 o.w8)).pop, o3, o.rc, o.w1, o.w8, o.m0, o.bnd⟩
theorem window_len {m : Lk} : m.window.length = m.sn.next - m.sn.base := by
  unfold Lk.window
  rw [List.length_map, List.length_range]
/-- the window holds 120 numbers at most: all that is needed here -/
theorem round_ok {m : Lk} {b : Nat} (o : LkOk m b) : LkOk m.round (b + 1080) := by
  have h1 := againAll_ok m.window o
  have h2 := o.sn.nx
  have h3 := o.sn.few
  have h4 := window_len (m := m)
  exact (ackNow_ok h1).more (by omega)
theorem again_life (m : Lk) (a : Nat) : (m.again a).fr.life = m.fr.life := rfl
theorem againAll_life : ∀ (as : List Nat) (m : Lk), (Lk.againAll as m).fr.life = m.fr.life ∧ (Lk.againAll as m).ac = m.ac ∧ (Lk.againAll as m).sn = m.sn
  | [], m => ⟨rfl, rfl, rfl⟩
  | a :: r, m => by
    show (Lk.againAll r (if m.sn.acked a = true then m else m.again a)).fr.life = _ ∧ (Lk.againAll r (if m.sn.acked a = true then m else m.again a)).ac = _ ∧ (Lk.againAll r (if m.sn.acked a = true then m else m.again a)).sn = _
    obtain ⟨h1, h2, h3⟩ := againAll_life r (if m.sn.acked a = true then m else m.again a)
    rw [h1, h2, h3]
    split <;> exact ⟨rfl, rfl, rfl⟩
theorem round_life (m : Lk) : m.round.fr.life = m.fr.life ∧ m.round.ac.life = m.ac.life := by
  obtain ⟨h1, h2, h3⟩ := againAll_life m.window m
  refine ⟨?_, ?_⟩
  · rw [← h1]
    exact (fillN_fr _ _ _ _).2.2
  · show (Lk.againAll m.window m).ac.life = m.ac.life
    rw [h2]
theorem window_drop {m : Lk} {j : Nat} (h : j < m.sn.next - m.sn.base) : m.window.drop j = (m.sn.base + j) :: m.window.drop (j + 1) := by
  have h1 : j < m.window.length := by
    rw [window_len]
    exact h
  rw [List.drop_eq_getElem_cons h1]
  have e : m.window[j]? = some (m.sn.base + j) := by
    unfold Lk.window
    rw [List.getElem?_map, List.getElem?_range h]
    rfl
  rw [(List.getElem?_eq_some_iff.mp e).2]
section
variable {P : Program} {w : World} {K : PySem.W.Frag} {mg : Str → Option Value} {base : Heap} {C : Cs}
def spRound (C : Cs) : Sp := fun vs H Q _ => ∃ (g : Gh) (i : Nat) (a : Addr) (m : Lk) (b b2 : Nat), vs = [.ref a] ∧ LkAt C g H i a m b ∧ LkOk m b2 ∧ 1 ≤ m.fr.life ∧ 1 ≤ m.ac.life ∧ b ≤ 8900000 ∧ b2 ≤ 8900000 ∧
  ∀ g' H', Mv (LS i) g H g' H' → LkAt C g' H' i a m.round (b + 300) → Q .non H'
theorem m_repeat_window (T : Txt K mg C) : C8.Met P w K mg base 8 C.Link "repeat_window" (spRound C) [] := by
  have cW : C8.Met P w K mg base 2 C.Sender "awaits_acknowledgement" (spAwaits C) [] := m_awaits T
  have cS : C8.Met P w K mg base 5 C.Sender "send_frame" (spSendFr C) [] := m_send_frame T
  have cV : C8.Met P w K mg base 3 C.Receiver "receive_frame" (spRcv K C) [] := m_receive_frame T
  have cN : C8.Met P w K mg base 1 C.Channel "take_newest" (spTakeNew C) [] := m_take_newest T
  have cD : C8.Met P w K mg base 4 C.Channel "send" (spChSend C) [] := m_Channel_send T
  have cF : C8.Met P w K mg base 1 C.Receiver "ack_fields" (spAckF C) [] := m_ack_fields T
  have cA : C8.Met P w K mg base 3 C.Sender "receive_ack" (spRAck K C) [] := m_receive_ack T
  have cM : C8.Met P w K mg base 7 C.Sender "move_window" (spMove C) [] := m_move_window T
  have cl := T.k_Link.cl
  have clS := T.k_Sender.cl
  refine df_m T.m_Link_repeat_window sc_Link_repeat_window (fun vs H Q E h => ?_) (fun f cdv A outer s H vs Q E hr h => ?_)
  · obtain ⟨_, _, _, _, _, _, rfl, _⟩ := h
    rfl
  · obtain ⟨g, i, a, m, b, b2, rfl, hL, ok, hfl, hal, hb, hb2, k⟩ := h
    refine ⟨_, pss_cons (ps_for PassesOwn.never rfl (pi_range2 (by rfl) T.b_range (pa_cons (pe_fld (pe_fld (pv 0) rfl) rfl) (pa_cons (pe_fld (pe_fld (pv 0) rfl) rfl) pa_nil))) (pg_name (i := 1) sc_Link_repeat_window.nd rfl (.inl rfl))
        (pss_one (ps_if (pt_val (C8.pe_mt cW hr (by decide) (pe_fld (pv 0) rfl) (pa_cons (pv 1) pa_nil)))
          (pss_cons (ps_expr (C8.pe_mt cS hr (by decide) (pe_fld (pv 0) rfl) (pa_cons (pv 1) pa_nil)))
          (pss_one (ps_expr (C8.pe_mt cV hr (by decide) (pe_fld (pv 0) rfl) (pa_cons (C8.pe_mt0 cN hr (by decide) (pe_fld (pv 0) rfl)) pa_nil))))) pss_nil)))
      (pss_cons (ps_expr (C8.pe_mt cD hr (by decide) (pe_fld (pv 0) rfl) (pa_cons (C8.pe_mt0 cF hr (by decide) (pe_fld (pv 0) rfl)) pa_nil)))
      (pss_cons (ps_expr (C8.pe_mt cA hr (by decide) (pe_fld (pv 0) rfl) (pa_cons (C8.pe_mt0 cN hr (by decide) (pe_fld (pv 0) rfl)) pa_nil)))
      (pss_one (ps_expr (C8.pe_mt0 cM hr (by decide) (pe_fld (pv 0) rfl)))))), ?_⟩
    have hL0 := hL
    obtain ⟨dx, fa, ca, sa, ra, aA, hF, hA, hS, hR⟩ := hL0
    obtain ⟨dxs, l, da, dd, ps, ka, kd, sA, _⟩ := hS
    have hle := ok.sn.le
    have hnx := ok.sn.nx
    have hfew := ok.sn.few
    refine ⟨_, rfl, a, C.Link, dx, _, _, rfl, aA.2, cl, no_Link_sender T, lk_Link_sender, sa, C.Sender, dxs, _, _, rfl, sA.2, clS, no_Sender_base T, lk_Sender_base, _, rfl, a, C.Link, dx, _, _, rfl, aA.2, cl, no_Link_sender T, lk_Link_sender, sa, C.Sender, dxs, _, _, rfl, sA.2, clS, no_Sender_next_number T, lk_Sender_next_number, _, _, rfl, ⟨by omega, by omega, by omega, by omega⟩, ?_⟩
    rw [show ((m.sn.next : Int) - (m.sn.base : Int)).toNat = m.sn.next - m.sn.base by omega]
    refine for_range (lo := (m.sn.base : Int)) (n := m.sn.next - m.sn.base)
      (fun j σ H' => ∃ (y : Option V) (g1 : Gh) (m1 : Lk), σ = [some (.ref a), y] ∧ Mv (LS i) g H g1 H' ∧ LkAt C g1 H' i a m1 b ∧ LkOk m1 (b2 + 9 * j) ∧ m1.sn = m.sn ∧ 1 ≤ m1.fr.life ∧ 1 ≤ m1.ac.life ∧ Lk.againAll (m.window.drop j) m1 = Lk.againAll m.window m)
      ⟨_, g, m, rfl, Mv.refl, hL, ok, rfl, hfl, hal, rfl⟩ ?_ ?_
    · rintro j σ H1 hj ⟨y, g1, m1, rfl, mv1, hL1, ok1, es, fl1, al1, ew⟩
      have hL10 := hL1
      obtain ⟨dx1, fa1, ca1, sa1, ra1, aA1, hF1, hA1, hS1, hR1⟩ := hL10
      have hS10 := hS1
      obtain ⟨dxs1, l1, da1, dd1, ps1, ka1, kd1, sA1, _⟩ := hS10
      rw [window_drop hj] at ew
      have ew' : Lk.againAll (m.window.drop (j + 1)) (if m1.sn.acked (m.sn.base + j) = true then m1 else m1.again (m.sn.base + j)) = Lk.againAll m.window m := ew
      have ek : (m.sn.base : Int) + (j : Int) = ((m.sn.base + j : Nat) : Int) := by omega
      have ea : m1.sn.awaits ((m.sn.base : Int) + (j : Int)) = !(m1.sn.acked (m.sn.base + j)) := by
        unfold Sn.awaits Sn.inW
        rw [ek, es, Int.toNat_natCast, decide_eq_true (show (m.sn.base : Int) ≤ ((m.sn.base + j : Nat) : Int) by omega), decide_eq_true (show ((m.sn.base + j : Nat) : Int) < (m.sn.next : Int) by omega)]
        rfl
      have ev : EtX (tB (tMeth C.Sender "awaits_acknowledgement" (spAwaits C) [] C8.E0 (tFld K (tVar 0) "sender") (tCons (tVar 1) tNil))) [some (.ref a), some (.int ((m.sn.base : Int) + (j : Int)))] H1 (!(m1.sn.acked (m.sn.base + j))) :=
        x_B fun Q' q' => x_meth (x_fld (x_v 0) aA1.2 cl (no_Link_sender T) lk_Link_sender) sA1.2 nm_Sender_awaits_acknowledgement (x_cons (x_v 1) x_nil) ⟨g1, i, sa1, fa1, m1.W, m1.M, m1.sn, b, _, rfl, hS1, by rw [ea]; exact q'⟩
      refine y_if ev (fun e => ?_) (fun e => ?_)
      · rw [Bool.not_eq_true'] at e
        rw [if_neg (by rw [e]; exact Bool.false_ne_true)] at ew'
        refine y_drop (x_meth (x_fld (x_v 0) aA1.2 cl (no_Link_sender T) lk_Link_sender) sA1.2 nm_Sender_send_frame (x_cons (x_v 1) x_nil) ⟨g1, i, sa1, fa1, m1.W, m1.M, m1.sn, b, m.sn.base + j, m1.fr, by rw [ek]; rfl, hS1, ok1.sn, by rw [es]; omega, ok1.m0, hF1, ok1.fr, fun g2 H2 mv2 hF2 => ?_⟩)
        have aA2 := aA1.mv mv2 (part_ne (by decide))
        have hR2 := hR1.mv mv2 (fun _ => part_ne (by decide)) (part_imm (by decide))
        have hR20 := hR2
        obtain ⟨dxr2, d2, lr2, kvs2, psr2, rA2, _⟩ := hR20
        have hF20 := hF2
        obtain ⟨dxc2, lc2, qs2, cA2, _⟩ := hF20
        refine ⟨_, rfl, a, C.Link, dx1, _, _, rfl, aA2.2, cl, no_Link_receiver T, lk_Link_receiver, ra1, dxr2, _, rfl, rA2.2, nm_Receiver_receive_frame, ?_⟩
        refine x_meth (x_fld (x_v 0) aA2.2 cl (no_Link_frames T) lk_Link_frames) cA2.2 nm_Channel_take_newest x_nil ?_
        refine ⟨g2, i, 1, fa1, _, _, rfl, hF2, ch_last fl1 _, fun H3 q mv3 hF3 hq => ?_⟩
        have hR3 := hR2.mv mv3 (fun _ => ne_part (by decide)) (imm_ne (by decide))
        refine ⟨g2, i, ra1, q, m1.W, m1.M, m1.ord, m1.rc, _, b2 + 9 * j, rfl, hR3, hq, frame_len ok1.sn _ _, ok1.rc, by omega, ok1.w8, ok1.m0, ok1.bnd, fun g4 H4 mv4 hR4 => ?_⟩
        have er : frameStep m1.W m1.M m1.ord m1.rc (mkPk (m1.sn.frame m1.M (m.sn.base + j)) m1.fr.sent).fs (decide ((mkPk (m1.sn.frame m1.M (m.sn.base + j)) m1.fr.sent).ck = Vbtwad.checksumOf (mkPk (m1.sn.frame m1.M (m.sn.base + j)) m1.fr.sent).fs)) = m1.rc.recv m1.W m1.M m1.ord (m1.sn.frame m1.M (m.sn.base + j)) := by
          rw [decide_eq_true (show (mkPk (m1.sn.frame m1.M (m.sn.base + j)) m1.fr.sent).ck = Vbtwad.checksumOf (mkPk (m1.sn.frame m1.M (m.sn.base + j)) m1.fr.sent).fs from rfl)]
          exact if_neg (fun h => Bool.noConfusion h)
        rw [er] at hR4
        have mvA : Mv (LS i) g1 H1 g4 H4 := (mv2.mono (ls_part (by decide))).trans ((mv3.mono (eq_ls (by decide))).trans (mv4.mono (ls_part (by decide))))
        refine ⟨_, g4, m1.again (m.sn.base + j), rfl, mv1.trans mvA, ⟨dx1, fa1, ca1, sa1, ra1, (aA2.mv mv3 (ne_part (by decide))).mv mv4 (part_ne (by decide)), hF3.mv mv4 (fun _ => part_ne (by decide)), ((hA1.mv mv2 (fun _ => part_ne (by decide))).mv mv3 (fun _ => ne_part (by decide))).mv mv4 (fun _ => part_ne (by decide)), ((hS1.mv mv2 (fun _ => part_ne (by decide)) (part_imm (by decide))).mv mv3 (fun _ => ne_part (by decide)) (imm_ne (by decide))).mv mv4 (fun _ => part_ne (by decide)) (part_imm (by decide)), hR4⟩, (again_ok ok1 _).more (by omega), es, fl1, al1, ew'⟩
      · rw [Bool.not_eq_false'] at e
        rw [if_pos e] at ew'
        exact ⟨_, g1, m1, rfl, mv1, hL1, ok1.more (by omega), es, fl1, al1, ew'⟩
    · rintro σ H1 ⟨y, g1, m1, rfl, mv1, hL1, ok1, es, fl1, al1, ew⟩
      have ed : m.window.drop (m.sn.next - m.sn.base) = [] := List.drop_eq_nil_of_le (by rw [window_len]; exact Nat.le_refl _)
      rw [ed] at ew
      have ew' : m1 = Lk.againAll m.window m := ew
      have hrd : m.round = m1.ackNow := by
        rw [ew']
        rfl
      rw [hrd] at k
      clear ew ew' hrd
      obtain ⟨dx1, fa1, ca1, sa1, ra1, aA1, hF1, hA1, hS1, hR1⟩ := hL1
      have hA10 := hA1
      obtain ⟨dxc1, lc1, qs1, cA1, _⟩ := hA10
      have hR10 := hR1
      obtain ⟨dxr1, d1, lr1, kvs1, psr1, rA1, _⟩ := hR10
      have aln := ack_len m1.rc (M := m1.M) ok1.w1 ok1.w8
      dsimp only
      refine ⟨_, rfl, a, C.Link, dx1, _, _, rfl, aA1.2, cl, no_Link_acks T, lk_Link_acks, ca1, dxc1, _, rfl, cA1.2, nm_Channel_send, ?_⟩
      refine x_meth (x_fld (x_v 0) aA1.2 cl (no_Link_receiver T) lk_Link_receiver) rA1.2 nm_Receiver_ack_fields x_nil ?_
      refine ⟨g1, i, ra1, m1.W, m1.M, m1.ord, m1.rc, rfl, hR1, ok1.w8, ok1.m0, fun H2 p sm np hp => ?_⟩
      have mv2 : ∀ {S : Role → Prop}, Mv S g1 H1 (tagAt g1 p (i, 2, 2 * m1.ac.sent + 3)) H2 := Mv.sameTag sm np _
      have hA2 := hA1.mv (S := fun _ => False) mv2 (fun _ z => z)
      refine ⟨_, i, 2, ca1, p, m1.ac, m1.rc.ack m1.W m1.M, rfl, hA2, ok1.ac, ⟨tag_same, hp⟩, aln.2, fun g3 H3 mv3 hA3 hp3 => ?_⟩
      have mvA : Mv (Part i 2) g1 H1 g3 H3 := mv2.trans mv3
      have aA3 := aA1.mv mvA (part_ne (by decide))
      have hS3 := hS1.mv mvA (fun _ => part_ne (by decide)) (part_imm (by decide))
      have hF3 := hF1.mv mvA (fun _ => part_ne (by decide))
      have hR3 := hR1.mv mvA (fun _ => part_ne (by decide)) (part_imm (by decide))
      have hS30 := hS3
      obtain ⟨dxs3, l3, da3, dd3, ps3, ka3, kd3, sA3, _⟩ := hS30
      have hA30 := hA3
      obtain ⟨dxc3, lc3, qs3, cA3, _⟩ := hA30
      dsimp only
      refine ⟨_, rfl, a, C.Link, dx1, _, _, rfl, aA3.2, cl, no_Link_sender T, lk_Link_sender, sa1, dxs3, _, rfl, sA3.2, nm_Sender_receive_ack, ?_⟩
      refine x_meth (x_fld (x_v 0) aA3.2 cl (no_Link_acks T) lk_Link_acks) cA3.2 nm_Channel_take_newest x_nil ?_
      refine ⟨g3, i, 2, ca1, _, _, rfl, hA3, ch_last al1 _, fun H4 q mv4 hA4 hq => ?_⟩
      have hS4 := hS3.mv mv4 (fun _ => ne_part (by decide)) (imm_ne (by decide))
      refine ⟨g3, i, sa1, fa1, q, m1.W, m1.M, m1.sn, b, _, rfl, hS4, ok1.sn, hq, aln, ok1.m0, by omega, fun H5 mv5 hS5 => ?_⟩
      have er : m1.sn.recvA m1.M (mkPk (m1.rc.ack m1.W m1.M) m1.ac.sent).fs (decide ((mkPk (m1.rc.ack m1.W m1.M) m1.ac.sent).ck = Vbtwad.checksumOf (mkPk (m1.rc.ack m1.W m1.M) m1.ac.sent).fs)) = m1.sn.recvAck m1.M (m1.rc.ack m1.W m1.M) := by
        rw [decide_eq_true (show (mkPk (m1.rc.ack m1.W m1.M) m1.ac.sent).ck = Vbtwad.checksumOf (mkPk (m1.rc.ack m1.W m1.M) m1.ac.sent).fs from rfl)]
        exact if_neg (fun h => Bool.noConfusion h)
      rw [er] at hS5
      have ok5 : SnOk (m1.sn.recvAck m1.M (m1.rc.ack m1.W m1.M)).1 := by
        have := (recvA_ok ok1.sn m1.M (m1.rc.ack m1.W m1.M) true).1
        rw [show m1.sn.recvA m1.M (m1.rc.ack m1.W m1.M) true = m1.sn.recvAck m1.M (m1.rc.ack m1.W m1.M) from if_neg (fun h => Bool.noConfusion h)] at this
        exact this
      have mvB : Mv (fun r => r = (i, 2, 1) ∨ r = (i, 3, 2)) g3 H3 g3 H5 := (mv4.mono fun r z => .inl z).trans (mv5.mono fun r z => .inr z)
      have nB : ∀ j n, j ≠ 2 → j ≠ 3 → ¬ (((i, j, n) : Role) = (i, 2, 1) ∨ ((i, j, n) : Role) = (i, 3, 2)) := fun j n h2 h3 z => z.elim (ne_part h2) (ne_part h3)
      have aA5 := aA3.mv mvB (nB _ _ (by decide) (by decide))
      have hS50 := hS5
      obtain ⟨dxs5, l5, da5, dd5, ps5, ka5, kd5, sA5, _⟩ := hS50
      dsimp only
      refine x_meth (x_fld (x_v 0) aA5.2 cl (no_Link_sender T) lk_Link_sender) sA5.2 nm_Sender_move_window x_nil ?_
      refine ⟨g3, i, sa1, fa1, m1.W, m1.M, _, b + 300, m1.fr, rfl, hS5, ok5, ok1.m0, hF3.mv mvB (fun n => nB _ _ (by decide) (by decide)), ok1.fr, fun g6 H6 mv6 hS6 hF6 => ?_⟩
      have mvC : Mv (LS i) g1 H1 g6 H6 := (mvA.mono (ls_part (by decide))).trans ((mvB.mono fun r z => z.elim (eq_ls (by decide) r) (eq_ls (by decide) r)).trans (mv6.mono part1_ls))
      refine k g6 H6 (mv1.trans mvC) ⟨dx1, fa1, ca1, sa1, ra1, aA5.mv mv6 (no1 (by decide) (by decide)), hF6, (hA4.mv mv5 (fun _ => ne_part (by decide))).mv mv6 (fun _ => no1 (by decide) (by decide)), hS6, (hR3.mv mvB (fun n => nB _ _ (by decide) (by decide)) (fun z => z.elim (imm_ne (by decide)) (imm_ne (by decide)))).mv mv6 (fun _ => no1 (by decide) (by decide)) (fun z => z.elim (part_imm (by decide)) (imm_ne (by decide)))⟩
end
end W170

namespace W170
open PySem PySem.Spec PyProof.Rows L2
theorem y_augN {σ : L2.St} {H : Hp} {D : Ends} {te : TE} {n : Nat} {i j : Int} (hσ : σ[n]? = some (some (.int i))) (he : EvX te σ H (.int j)) (h : D.nx (σ.set n (some (.int (i + j)))) H) : tAug n te (ipI fun i j => i + j) D σ H := ⟨_, hσ, he _ ⟨i, j, rfl, rfl, h⟩⟩
theorem y_retcat {σ : L2.St} {H : Hp} {D : Ends} {la : TA} {tb : TE} {vs : List V} (ha : EaX la σ H vs) (hn : vs.length ≤ 1000) (h : ∀ p, H p = none → tb σ (upd H p (.lst vs)) fun y H2 => rCat (.ref p) y H2 D.rt) : tRet (tOp rCat (tLst la) tb) D σ H := ha _ ⟨Nat.le_trans hn (by decide), h⟩
theorem cut_from {xs : List V} {k : Nat} (h : k ≤ xs.length) : cutV xs (some (k : Int)) none = xs.drop k := by
  unfold cutV
  rw [HT.sIx_none, show HT.sIx xs.length 0 (some (k : Int)) = min k xs.length from HT.sIx_nat xs.length 0 k, Nat.min_eq_left h]
  exact List.take_of_length_le (by rw [List.length_drop]; exact Nat.le_refl _)
theorem natI_len (l : List Nat) : (natI l).length = l.length := List.length_map ..
section
variable {P : Program} {w : World} {K : PySem.W.Frag} {mg : Str → Option Value} {base : Heap} {C : Cs}
/-! ### recovery -/
def spRounds (C : Cs) : Sp := fun vs H Q _ => ∃ (g : Gh) (i : Nat) (a : Addr) (m : Lk) (b f : Nat), vs = [.ref a, .int f] ∧ LkAt C g H i a m b ∧ LkOk m b ∧ 1 ≤ m.fr.life ∧ 1 ≤ m.ac.life ∧ b ≤ 8000000 ∧ f ≤ 121 ∧
  ∀ g' H', Mv (LS i) g H g' H' → LkAt C g' H' i a (Lk.recover f m).1 (b + 300 * f) → Q (.int ((Lk.recover f m).2 : Nat)) H'
theorem m_repeat_windows (T : Txt K mg C) : C8.Met P w K mg base 9 C.Link "repeat_windows" (spRounds C) [] := by
  have cR : C8.Met P w K mg base 8 C.Link "repeat_window" (spRound C) [] := m_repeat_window T
  have cW : C8.Met P w K mg base 1 C.Sender "window_count" (spWinC C) [] := m_window_count T
  have cl := T.k_Link.cl
  refine df_m T.m_Link_repeat_windows sc_Link_repeat_windows (fun vs H Q E h => ?_) (fun f cdv A outer s H vs Q E hr h => ?_)
  · obtain ⟨_, _, _, _, _, _, rfl, _⟩ := h
    rfl
  · obtain ⟨g, i, a, m, b, lim, rfl, hL, ok, hfl, hal, hb, hlim, k⟩ := h
    refine ⟨_, pss_cons (ps_set (i := 2) sc_Link_repeat_windows.nd rfl (.inl rfl) pe_int)
      (pss_cons (ps_while PassesOwn.never (PW.pt (pw_and (pt_cmpR op_lt (pv 2) (pv 1) (nomark _)) (pw_and1 (pt_cmpR op_gt (C8.pe_mt0 cW hr (by decide) (pe_fld (pv 0) rfl)) pe_int (nomark _)))))
        (pss_cons (ps_expr (C8.pe_mt0 cR hr (by decide) (pv 0)))
        (pss_one (ps_aug (i := 2) sc_Link_repeat_windows.nd rfl (.inl rfl) pe_int ip_add))))
      (pss_one (ps_ret (pv 2)))), ?_⟩
    refine y_asg x_c ?_
    refine ⟨fun n σ H1 => ∃ (g1 : Gh) (m1 : Lk) (c : Nat), σ = [some (.ref a), some (.int lim), some (.int c)] ∧ c + n = lim ∧ Mv (LS i) g H g1 H1 ∧ LkAt C g1 H1 i a m1 (b + 300 * c) ∧ LkOk m1 (b + 1080 * c) ∧ 1 ≤ m1.fr.life ∧ 1 ≤ m1.ac.life ∧ (Lk.recover n m1).1 = (Lk.recover lim m).1 ∧ c + (Lk.recover n m1).2 = (Lk.recover lim m).2,
      ⟨lim, g, m, 0, rfl, by omega, Mv.refl, hL, ok, hfl, hal, rfl, by omega⟩, ?_⟩
    rintro n σ H1 ⟨g1, m1, c, rfl, hc, mv1, hL1, ok1, fl1, al1, e1, e2⟩
    have hL10 := hL1
    obtain ⟨dx1, fa1, ca1, sa1, ra1, aA1, hF1, hA1, hS1, hR1⟩ := hL10
    have hS10 := hS1
    obtain ⟨dxs1, l1, da1, dd1, ps1, ka1, kd1, sA1, _⟩ := hS10
    have hle := ok1.sn.le
    have ev : EtX (tAnd (tTest (tOp (rI0 fun i j => V.bl (decide (i < j))) (tVar 2) (tVar 1))) (tTest (tOp (rI0 fun i j => V.bl (decide (j < i))) (tMeth C.Sender "window_count" (spWinC C) [] C8.E0 (tFld K (tVar 0) "sender") tNil) (tC (V.int 0))))) [some (.ref a), some (.int lim), some (.int c)] H1 (decide ((c : Int) < (lim : Int)) && decide (0 < (m1.sn.next : Int) - (m1.sn.base : Int))) :=
      x_and (x_test (x_i0 (x_v 2) (x_v 1))) fun _ => x_test (x_i0 (fun Q' q' => x_meth (x_fld (x_v 0) aA1.2 cl (no_Link_sender T) lk_Link_sender) sA1.2 nm_Sender_window_count x_nil ⟨g1, i, sa1, fa1, m1.W, m1.M, m1.sn, _, rfl, hS1, q'⟩) x_c)
    refine ev _ (if_c (fun e => ?_) (fun e => ?_))
    · obtain ⟨z1, z2⟩ := Bool.and_eq_true_iff.mp e
      have y1 := of_decide_eq_true z1
      have y2 := of_decide_eq_true z2
      obtain ⟨n', rfl⟩ : ∃ n', n = n' + 1 := ⟨n - 1, by omega⟩
      have er : Lk.recover (n' + 1) m1 = ((Lk.recover n' m1.round).1, (Lk.recover n' m1.round).2 + 1) := if_neg (by omega)
      rw [er] at e1 e2
      refine ⟨_, fun σ2 H2 h => ⟨n', Nat.lt_succ_self _, h⟩, ?_⟩
      obtain ⟨r1, r2⟩ := round_life m1
      refine y_drop (x_meth (x_v 0) aA1.2 nm_Link_repeat_window x_nil ⟨g1, i, a, m1, _, _, rfl, hL1, ok1, fl1, al1, by omega, by omega, fun g2 H2 mv2 hL2 => ?_⟩)
      refine y_augN rfl x_c ?_
      exact ⟨g2, m1.round, c + 1, rfl, by omega, mv1.trans mv2, hL2, (round_ok ok1).more (by omega), by rw [r1]; exact fl1, by rw [r2]; exact al1, e1, by rw [← e2]; show c + 1 + (Lk.recover n' m1.round).2 = c + ((Lk.recover n' m1.round).2 + 1); omega⟩
    · have er : Lk.recover n m1 = (m1, 0) := by
        cases n with
        | zero => rfl
        | succ n' =>
          rcases Bool.and_eq_false_iff.mp e with z | z
          · have := of_decide_eq_false z
            omega
          · have := of_decide_eq_false z
            exact if_pos (by omega)
      rw [er] at e1 e2
      have e2' : c = (Lk.recover lim m).2 := e2
      dsimp only
      refine y_ret (x_v 2) ?_
      rw [e2']
      refine k g1 H1 mv1 ?_
      rw [← e1]
      exact hL1.more (by omega)
theorem c_recover (T : Txt K mg C) : C8.Cal P w K mg base 10 "recover" (SpLk K C (fun m _ => mRecover m) 0) [] := by
  have cR : C8.Met P w K mg base 9 C.Link "repeat_windows" (spRounds C) [] := m_repeat_windows T
  have cl := T.k_Link.cl
  have clR := T.k_Receiver.cl
  refine df_g T.g_recover sc_recover (fun vs H Q E h => ?_) (fun f cdv A outer s H vs Q E hr h => ?_)
  · obtain ⟨_, _, _, _, _, _, _, rfl, _⟩ := h
    rfl
  · obtain ⟨g, i, a, l, m, b, xs, rfl, hL, ok, hb, hx, hl, gl, k⟩ := h
    refine ⟨_, pss_cons (ps_if (pt_not (pt_val (pe_fld (pv 0) rfl))) (pss_one (ps_ret (pe_lst (pa_cons (pe_gi T.n_NOT_SAFE) pa_nil)))) pss_nil)
      (pss_cons (ps_set (i := 2) sc_recover.nd rfl (.inl rfl) (pe_ln T.b_len (pe_fld (pe_fld (pv 0) rfl) rfl)))
      (pss_cons (ps_set (i := 3) sc_recover.nd rfl (.inl rfl) (C8.pe_mt cR hr (by decide) (pv 0) (pa_cons (pe_gi T.n_ROUND_LIMIT) pa_nil)))
      (pss_one (ps_ret (pe_lst (pa_cons (pv 3) (pa_cons (pe_op op_sub (pe_ln T.b_len (pe_fld (pe_fld (pv 0) rfl) rfl)) (pv 2)) pa_nil))))))), ?_⟩
    have hL0 := hL
    obtain ⟨dx, fa, ca, sa, ra, aA, hF, hA, hS, hR⟩ := hL
    obtain ⟨dxr, d, lr, kvs, ps, rA, rD, rL, rk, rV, rP⟩ := hR
    refine y_if (x_not (x_B (x_fld (x_v 0) aA.2 cl (no_Link_safe T) lk_Link_safe))) (fun e => ?_) (fun e => ?_)
    · rw [Bool.not_eq_true'] at e
      have ef : mRecover m = (m, [-9]) := if_pos e
      refine y_retl (x_cons x_c x_nil) (by show 1 ≤ 1000; decide) fun p np => k g _ p (Mv.new' np) np ?_ ?_
      · show LkAt C g _ i a (mRecover m).1 _
        rw [ef]
        exact (hL0.new np).more (by omega)
      · show _ = some (HO.lst ((mRecover m).2.map V.int))
        rw [ef, upd_same]
        rfl
    · rw [Bool.not_eq_false'] at e
      have ef : mRecover m = ((Lk.recover 121 m).1, [((Lk.recover 121 m).2 : Int), ((Lk.recover 121 m).1.rc.del.length : Int) - (m.rc.del.length : Int)]) := if_neg (by rw [e]; exact fun h => Bool.noConfusion h)
      dsimp only [tNext]
      have eN : EvX (tCB (rLn K) (tCons (tFld K (tFld K (tVar 0) "receiver") "delivered") tNil)) (L2.start ["link", "arguments", "delivered_before", "rounds"] [V.ref a, V.ref l]) H (.int (ps.map V.ref).length) := x_len (x_fld (x_fld (x_v 0) aA.2 cl (no_Link_receiver T) lk_Link_receiver) rA.2 clR (no_Receiver_delivered T) lk_Receiver_delivered) (.of rL.2)
      rw [List.length_map, Paired.length rP] at eN
      refine y_asg eN ?_
      dsimp only [tSeq]
      refine x_meth (x_v 0) aA.2 nm_Link_repeat_windows (x_cons x_c x_nil) ⟨g, i, a, m, b, 121, rfl, hL0, ok.toLkOk, ok.fl, ok.al, hb, by omega, fun g1 H1 mv1 hL1 => ?_⟩
      have hL10 := hL1
      obtain ⟨dx1, fa1, ca1, sa1, ra1, aA1, hF1, hA1, hS1, hR1⟩ := hL10
      obtain ⟨dxr1, d1, lr1, kvs1, ps1, rA1, rD1, rL1, rk1, rV1, rP1⟩ := hR1
      have eN1 : EvX (tOp (rI0 fun i j => V.int (i - j)) (tCB (rLn K) (tCons (tFld K (tFld K (tVar 0) "receiver") "delivered") tNil)) (tVar 2)) [some (.ref a), some (.ref l), some (.int m.rc.del.length), some (.int ((Lk.recover 121 m).2 : Nat))] H1 (.int (((ps1.map V.ref).length : Int) - (m.rc.del.length : Int))) := x_i0 (x_len (x_fld (x_fld (x_v 0) aA1.2 cl (no_Link_receiver T) lk_Link_receiver) rA1.2 clR (no_Receiver_delivered T) lk_Receiver_delivered) (.of rL1.2)) (x_v 2)
      rw [List.length_map, Paired.length rP1] at eN1
      dsimp only
      refine y_retl (x_cons (x_v 3) (x_cons eN1 x_nil)) (by show 2 ≤ 1000; decide) fun o no => ?_
      refine k g1 _ o (mv1.trans (Mv.new' no)) (mv1.free no) ?_ ?_
      · show LkAt C g1 _ i a (mRecover m).1 _
        rw [ef]
        exact (hL1.new no).more (by omega)
      · show _ = some (HO.lst ((mRecover m).2.map V.int))
        rw [ef, upd_same]
        rfl
/-! ### what is shown of a link -/
theorem c_list_acks (T : Txt K mg C) : C8.Cal P w K mg base 3 "list_acks" (SpLk K C (fun m _ => (m, pkList m.ac)) 0) [] := by
  have cL : C8.Cal P w K mg base 2 "packet_list" (spPkList C) [] := c_packet_list T
  have cl := T.k_Link.cl
  refine df_g T.g_list_acks sc_list_acks (fun vs H Q E h => ?_) (fun f cdv A outer s H vs Q E hr h => ?_)
  · obtain ⟨_, _, _, _, _, _, _, rfl, _⟩ := h
    rfl
  · obtain ⟨g, i, a, l, m, b, xs, rfl, hL, ok, hb, hx, hl, gl, k⟩ := h
    refine ⟨_, pss_one (ps_ret (C8.pe_c cL hr (by decide) (by rfl) (pa_cons (pe_fld (pv 0) rfl) pa_nil))), ?_⟩
    have hL0 := hL
    obtain ⟨dx, fa, ca, sa, ra, aA, hF, hA, hS, hR⟩ := hL
    refine x_call (x_cons (x_fld (x_v 0) aA.2 cl (no_Link_acks T) lk_Link_acks) x_nil) ?_
    exact ⟨g, i, 2, ca, m.ac, rfl, hA, ok.ac, fun H' p sm np hp => k g H' p (Mv.same sm) np ((hL0.same sm).more (by omega)) hp⟩
theorem c_receiver_state (T : Txt K mg C) : C8.Cal P w K mg base 2 "receiver_state" (SpLk K C (fun m _ => (m, mRState m)) 0) [] := by
  have cA : C8.Met P w K mg base 1 C.Receiver "received_above" (spAbove C) [] := m_received_above T
  have cT : C8.Cal P w K mg base 1 "told_list" spTold [] := c_told_list T
  have cl := T.k_Link.cl
  have clR := T.k_Receiver.cl
  refine df_g T.g_receiver_state sc_receiver_state (fun vs H Q E h => ?_) (fun f cdv A outer s H vs Q E hr h => ?_)
  · obtain ⟨_, _, _, _, _, _, _, rfl, _⟩ := h
    rfl
  · obtain ⟨g, i, a, l, m, b, xs, rfl, hL, ok, hb, hx, hl, gl, k⟩ := h
    refine ⟨_, pss_one (ps_ret (pe_op op_cat (pe_lst (pa_cons (pe_fld (pe_fld (pv 0) rfl) rfl) pa_nil)) (C8.pe_c cT hr (by decide) (by rfl) (pa_cons (C8.pe_mt0 cA hr (by decide) (pe_fld (pv 0) rfl)) pa_nil)))), ?_⟩
    have hL0 := hL
    obtain ⟨dx, fa, ca, sa, ra, aA, hF, hA, hS, hR⟩ := hL
    have hR0 := hR
    obtain ⟨dxr, d, lr, kvs, ps, rA, rD, rL, rk, rV, rP⟩ := hR0
    refine y_retcat (x_cons (x_fld (x_fld (x_v 0) aA.2 cl (no_Link_receiver T) lk_Link_receiver) rA.2 clR (no_Receiver_lowest_missing T) lk_Receiver_lowest_missing) x_nil) (by show 1 ≤ 1000; decide) fun p np => ?_
    have s1 : Same H (upd H p (.lst [.int m.rc.x])) := same_new np
    have hx2 := ok.rc.x
    have hol : (m.rc.open_ m.W).length ≤ 8 := by
      have := ok.w8
      unfold Rc.open_
      exact Nat.le_trans (List.length_filter_le _ _) (by rw [List.length_map, List.length_range]; omega)
    refine x_meth (x_fld (x_v 0) (s1 _ _ aA.2) cl (no_Link_receiver T) lk_Link_receiver) (s1 _ _ rA.2) nm_Receiver_received_above x_nil ?_
    refine ⟨g, i, ra, m.W, m.M, m.ord, m.rc, rfl, hR.mv (S := fun _ => False) (Mv.same s1) (fun _ z => z) (fun z => z), ok.w8, by omega, fun H2 q s2 nq hq => ?_⟩
    refine ⟨q, _, rfl, hq, by rw [natI_len]; omega, fun H3 r s3 nr hr3 => ?_⟩
    have s13 := s1.trans (s2.trans s3)
    refine ⟨p, r, _, _, rfl, rfl, (s2.trans s3) _ _ upd_same, hr3, ?_, fun o no => ?_⟩
    · have hn := natI_len (m.rc.open_ m.W)
      rw [List.length_map]
      exact Nat.le_trans (by show 1 + ((natI (m.rc.open_ m.W)).length + 1) ≤ 1000; omega) (by decide)
    have s4 := s13.trans (same_new no (o := .lst ([.int m.rc.x] ++ (tl (natI (m.rc.open_ m.W))).map V.int)))
    refine k g _ o (Mv.same s4) (s13.free no) ((hL0.same s4).more (by omega)) ?_
    rw [upd_same]
    show some (HO.lst ([V.int m.rc.x] ++ (tl (natI (m.rc.open_ m.W))).map V.int)) = some (HO.lst (((m.rc.x : Int) :: lenInts (m.rc.open_ m.W)).map V.int))
    unfold tl
    rw [natI_len]
    rfl
theorem c_list_in_transit (T : Txt K mg C) : C8.Cal P w K mg base 3 "list_in_transit" (SpLk K C (fun m _ => (m, mListT m)) 0) [] := by
  have cI : C8.Met P w K mg base 2 C.Link "in_transit" (spTr C Lk.trans1) [] := m_in_transit T
  have cN : C8.Met P w K mg base 2 C.Link "known_in_transit" (spTr C Lk.trans2) [] := m_known T
  have cT : C8.Cal P w K mg base 1 "told_list" spTold [] := c_told_list T
  have cl := T.k_Link.cl
  refine df_g T.g_list_in_transit sc_list_in_transit (fun vs H Q E h => ?_) (fun f cdv A outer s H vs Q E hr h => ?_)
  · obtain ⟨_, _, _, _, _, _, _, rfl, _⟩ := h
    rfl
  · obtain ⟨g, i, a, l, m, b, xs, rfl, hL, ok, hb, hx, hl, gl, k⟩ := h
    refine ⟨_, pss_one (ps_ret (pe_op op_cat (C8.pe_c cT hr (by decide) (by rfl) (pa_cons (C8.pe_mt0 cI hr (by decide) (pv 0)) pa_nil)) (C8.pe_c cT hr (by decide) (by rfl) (pa_cons (C8.pe_mt0 cN hr (by decide) (pv 0)) pa_nil)))), ?_⟩
    have hL0 := hL
    obtain ⟨dx, fa, ca, sa, ra, aA, hF, hA, hS, hR⟩ := hL
    have hfew := ok.sn.few
    have l1 := trans1_len m
    have l2 := trans2_len m
    refine x_meth (x_v 0) aA.2 nm_Link_in_transit x_nil ⟨g, i, a, m, b, rfl, hL0, ok.sn, fun H1 p s1 np hp => ?_⟩
    refine ⟨p, _, rfl, hp, by rw [natI_len]; omega, fun H2 q s2 nq hq => ?_⟩
    have s12 := s1.trans s2
    refine x_meth (x_v 0) (s12 _ _ aA.2) nm_Link_known_in_transit x_nil ⟨g, i, a, m, b, rfl, hL0.same s12, ok.sn, fun H3 r s3 nr hr3 => ?_⟩
    refine ⟨r, _, rfl, hr3, by rw [natI_len]; omega, fun H4 t s4 nt ht => ?_⟩
    have s34 := s3.trans s4
    refine ⟨q, t, _, _, rfl, rfl, s34 _ _ hq, ht, ?_, fun o no => ?_⟩
    · unfold tl
      rw [List.length_map, List.length_map, List.length_cons, List.length_cons, natI_len, natI_len]
      exact Nat.le_trans (by omega : _ ≤ 1000) (by decide)
    have s14 := s12.trans s34
    have s5 := s14.trans (same_new no (o := .lst ((tl (natI m.trans1)).map V.int ++ (tl (natI m.trans2)).map V.int)))
    refine k g _ o (Mv.same s5) (s14.free no) ((hL0.same s5).more (by omega)) ?_
    rw [upd_same, ← List.map_append]
    unfold tl
    rw [natI_len, natI_len]
    rfl
end
end W170

namespace W170
open PySem PySem.Spec PyProof.Rows L2
theorem sndRow_len (s : Sn) (n : Nat) : (sndRow s n).length = 2 := rfl
theorem snd_len (s : Sn) : ∀ (l : List Nat), (l.flatMap (sndRow s)).length = 2 * l.length
  | [] => rfl
  | a :: l => by
    rw [List.flatMap_cons, List.length_append, snd_len s l, sndRow_len, List.length_cons]
    omega
section
variable {P : Program} {w : World} {K : PySem.W.Frag} {mg : Str → Option Value} {base : Heap} {C : Cs}
theorem c_sender_state (T : Txt K mg C) : C8.Cal P w K mg base 3 "sender_state" (SpLk K C (fun m _ => (m, mSState m)) 0) [] := by
  have cW : C8.Met P w K mg base 1 C.Sender "window_count" (spWinC C) [] := m_window_count T
  have cQ : C8.Met P w K mg base 1 C.Sender "queue_count" (spQueC C) [] := m_queue_count T
  have cA : C8.Met P w K mg base 2 C.Sender "awaits_acknowledgement" (spAwaits C) [] := m_awaits T
  have cH : C8.Met P w K mg base 1 C.Sender "has_content" (spHasC C) [] := m_has_content T
  have cl := T.k_Link.cl
  have clS := T.k_Sender.cl
  refine df_g T.g_sender_state sc_sender_state (fun vs H Q E h => ?_) (fun f cdv A outer s H vs Q E hr h => ?_)
  · obtain ⟨_, _, _, _, _, _, _, rfl, _⟩ := h
    rfl
  · obtain ⟨g, i, a, l, m, b, xs, rfl, hL, ok, hb, hx, hl, gl, k⟩ := h
    refine ⟨_, pss_cons (ps_set (i := 2) sc_sender_state.nd rfl (.inl rfl) (pe_fld (pv 0) rfl))
      (pss_cons (ps_set (i := 3) sc_sender_state.nd rfl (.inl rfl) (pe_lst (pa_cons (pe_fld (pv 2) rfl) (pa_cons (C8.pe_mt0 cW hr (by decide) (pv 2)) (pa_cons (C8.pe_mt0 cQ hr (by decide) (pv 2)) pa_nil)))))
      (pss_cons (ps_for PassesOwn.never rfl (pi_range2 (by rfl) T.b_range (pa_cons (pe_fld (pv 2) rfl) (pa_cons (pe_fld (pv 2) rfl) pa_nil))) (pg_name (i := 4) sc_sender_state.nd rfl (.inl rfl))
        (pss_cons (ps_expr (pe_bm PySem.F.plainAttrs_list PySem.F.slot_list_append PySem.F.type_list_append mt_append (pv 3) (pa_cons (pe_ifExp (pt_val (C8.pe_mt cA hr (by decide) (pv 2) (pa_cons (pv 4) pa_nil))) pe_int pe_int) pa_nil)))
        (pss_one (ps_expr (pe_bm PySem.F.plainAttrs_list PySem.F.slot_list_append PySem.F.type_list_append mt_append (pv 3) (pa_cons (pe_ifExp (pt_val (C8.pe_mt cH hr (by decide) (pv 2) (pa_cons (pv 4) pa_nil))) pe_int pe_int) pa_nil))))))
      (pss_one (ps_ret (pv 3))))), ?_⟩
    have hL0 := hL
    obtain ⟨dx, fa, ca, sa, ra, aA, hF, hA, hS, hR⟩ := hL
    have hS0 := hS
    obtain ⟨dxs, l1, da, dd, ps, ka, kd, sA, _⟩ := hS0
    have hle := ok.sn.le
    have hnx := ok.sn.nx
    have hfew := ok.sn.few
    refine y_asg (x_fld (x_v 0) aA.2 cl (no_Link_sender T) lk_Link_sender) ?_
    have e1 : EvX (tMeth C.Sender "window_count" (spWinC C) [] C8.E0 (tVar 2) tNil) [some (.ref a), some (.ref l), some (.ref sa), none, none] H (.int ((m.sn.next : Int) - (m.sn.base : Int))) := fun Q' q' => x_meth (x_v 2) sA.2 nm_Sender_window_count x_nil ⟨g, i, sa, fa, m.W, m.M, m.sn, b, rfl, hS, q'⟩
    have e2 : EvX (tMeth C.Sender "queue_count" (spQueC C) [] C8.E0 (tVar 2) tNil) [some (.ref a), some (.ref l), some (.ref sa), none, none] H (.int ((m.sn.items.length : Int) - (m.sn.next : Int))) := fun Q' q' => x_meth (x_v 2) sA.2 nm_Sender_queue_count x_nil ⟨g, i, sa, fa, m.W, m.M, m.sn, b, rfl, hS, q'⟩
    refine y_asgl (x_cons (x_fld (x_v 2) sA.2 clS (no_Sender_base T) lk_Sender_base) (x_cons e1 (x_cons e2 x_nil))) (by show 3 ≤ 1000; decide) fun o no => ?_
    have s1 : Same H (upd H o (.lst [.int m.sn.base, .int ((m.sn.next : Int) - (m.sn.base : Int)), .int ((m.sn.items.length : Int) - (m.sn.next : Int))])) := same_new no
    have S1 := s1 _ _ sA.2
    refine ⟨_, rfl, sa, C.Sender, dxs, _, _, rfl, S1, clS, no_Sender_base T, lk_Sender_base, _, rfl, sa, C.Sender, dxs, _, _, rfl, S1, clS, no_Sender_next_number T, lk_Sender_next_number, _, _, rfl, ⟨by omega, by omega, by omega, by omega⟩, ?_⟩
    rw [show ((m.sn.next : Int) - (m.sn.base : Int)).toNat = m.sn.next - m.sn.base by omega]
    have wl := window_len (m := m)
    refine for_range (lo := (m.sn.base : Int)) (n := m.sn.next - m.sn.base)
      (fun j σ H' => (∃ y, σ = [some (.ref a), some (.ref l), some (.ref sa), some (.ref o), y]) ∧ Same H H' ∧ H' o = some (.lst (([(m.sn.base : Int), ((m.sn.next - m.sn.base : Nat) : Int), ((m.sn.items.length - m.sn.next : Nat) : Int)] ++ (m.window.take j).flatMap (sndRow m.sn)).map V.int)))
      ⟨⟨_, rfl⟩, s1, ?_⟩ ?_ ?_
    · rw [upd_same, show (m.sn.next : Int) - (m.sn.base : Int) = ((m.sn.next - m.sn.base : Nat) : Int) by omega, show (m.sn.items.length : Int) - (m.sn.next : Int) = ((m.sn.items.length - m.sn.next : Nat) : Int) by omega]
      rfl
    · rintro j σ H' hj ⟨⟨y, rfl⟩, sm, hO⟩
      have ek : (m.sn.base : Int) + (j : Int) = ((m.sn.base + j : Nat) : Int) := by omega
      have hS2 : SnAt C g H' i sa fa m.W m.M m.sn b := hS.mv (S := fun _ => False) (Mv.same sm) (fun _ z => z) (fun z => z)
      have ea : m.sn.awaits ((m.sn.base : Int) + (j : Int)) = !(m.sn.acked (m.sn.base + j)) := by
        unfold Sn.awaits Sn.inW
        rw [ek, Int.toNat_natCast, decide_eq_true (show (m.sn.base : Int) ≤ ((m.sn.base + j : Nat) : Int) by omega), decide_eq_true (show ((m.sn.base + j : Nat) : Int) < (m.sn.next : Int) by omega)]
        rfl
      have hw : m.window[j]? = some (m.sn.base + j) := by
        unfold Lk.window
        rw [List.getElem?_map, List.getElem?_range hj]
        rfl
      have tl0 : (m.window.take j).length ≤ 120 := by
        rw [List.length_take]
        omega
      have sl := snd_len m.sn (m.window.take j)
      have v1 : EvX (tIf (tB (tMeth C.Sender "awaits_acknowledgement" (spAwaits C) [] C8.E0 (tVar 2) (tCons (tVar 4) tNil))) (tC (V.int 0)) (tC (V.int 1))) [some (.ref a), some (.ref l), some (.ref sa), some (.ref o), some (.int ((m.sn.base : Int) + (j : Int)))] H' (.int (if m.sn.acked (m.sn.base + j) = true then 1 else 0)) := by
        refine x_if (a := !(m.sn.acked (m.sn.base + j))) (x_B fun Q' q' => x_meth (x_v 2) (sm _ _ sA.2) nm_Sender_awaits_acknowledgement (x_cons (x_v 4) x_nil) ⟨g, i, sa, fa, m.W, m.M, m.sn, b, _, rfl, hS2, by rw [ea]; exact q'⟩) (fun h => ?_) (fun h => ?_)
        · rw [Bool.not_eq_true'] at h
          rw [h, if_neg Bool.false_ne_true]
          exact x_c
        · rw [Bool.not_eq_false'] at h
          rw [if_pos h]
          exact x_c
      refine y_app (x_v 3) hO (v1 _ ⟨o, _, _, rfl, rfl, hO, ?_, ?_⟩)
      · rw [List.length_map, List.length_append, sl]
        exact Nat.lt_of_le_of_lt (by show 3 + 2 * _ ≤ 1000; omega) (by decide)
      generalize hH2 : upd H' o (.lst ((([(m.sn.base : Int), ((m.sn.next - m.sn.base : Nat) : Int), ((m.sn.items.length - m.sn.next : Nat) : Int)] ++ (m.window.take j).flatMap (sndRow m.sn)).map V.int) ++ [.int (if m.sn.acked (m.sn.base + j) = true then 1 else 0)])) = H2
      have sm2 : Same H H2 := by
        rw [← hH2]
        exact same_upd sm no
      have hO2 : H2 o = some (.lst ((([(m.sn.base : Int), ((m.sn.next - m.sn.base : Nat) : Int), ((m.sn.items.length - m.sn.next : Nat) : Int)] ++ (m.window.take j).flatMap (sndRow m.sn)).map V.int) ++ [.int (if m.sn.acked (m.sn.base + j) = true then 1 else 0)])) := by
        rw [← hH2, upd_same]
      have hS3 : SnAt C g H2 i sa fa m.W m.M m.sn b := hS.mv (S := fun _ => False) (Mv.same sm2) (fun _ z => z) (fun z => z)
      have v2 : EvX (tIf (tB (tMeth C.Sender "has_content" (spHasC C) [] C8.E0 (tVar 2) (tCons (tVar 4) tNil))) (tC (V.int 1)) (tC (V.int 0))) [some (.ref a), some (.ref l), some (.ref sa), some (.ref o), some (.int ((m.sn.base : Int) + (j : Int)))] H2 (.int (if m.sn.dropped (m.sn.base + j) = true then 0 else 1)) := by
        refine x_if (a := !(m.sn.dropped (m.sn.base + j))) (x_B fun Q' q' => x_meth (x_v 2) (sm2 _ _ sA.2) nm_Sender_has_content (x_cons (x_v 4) x_nil) ⟨g, i, sa, fa, m.W, m.M, m.sn, b, m.sn.base + j, by rw [ek]; rfl, hS3, q'⟩) (fun h => ?_) (fun h => ?_)
        · rw [Bool.not_eq_true'] at h
          rw [h, if_neg Bool.false_ne_true]
          exact x_c
        · rw [Bool.not_eq_false'] at h
          rw [if_pos h]
          exact x_c
      refine y_app (x_v 3) hO2 (v2 _ ⟨o, _, _, rfl, rfl, hO2, ?_, ?_⟩)
      · rw [List.length_append, List.length_map, List.length_append, sl]
        exact Nat.lt_of_le_of_lt (by show 3 + 2 * _ + 1 ≤ 1000; omega) (by decide)
      refine ⟨⟨_, rfl⟩, same_upd sm2 no, ?_⟩
      rw [upd_same, flat_snoc (sndRow m.sn) m.window j _ hw]
      unfold sndRow
      simp only [List.map_append, List.map_cons, List.map_nil, List.append_assoc, List.cons_append, List.nil_append]
    · rintro σ H' ⟨⟨y, rfl⟩, sm, hO⟩
      dsimp only
      refine y_ret (x_v 3) (k g H' o (Mv.same sm) no ((hL0.same sm).more (by omega)) ?_)
      have e : m.window.take (m.sn.next - m.sn.base) = m.window := by rw [← wl, List.take_length]
      rw [hO, e]
      rfl
/-! list_delivered: its answer's length is known to whoever asks -/
def SpLkB (K : PySem.W.Frag) (C : Cs) (f : Lk → List Int → Lk × List Int) (n : Nat) : Sp := fun vs H Q _ => ∃ (g : Gh) (i : Nat) (a l : Addr) (m : Lk) (b : Nat) (xs : List Int), vs = [.ref a, .ref l] ∧ LkAt C g H i a m b ∧ LkAll m b ∧ b ≤ 8000000 ∧ xs.length = n ∧ SqL K H l (xs.map V.int) ∧ g l = imm ∧ (f m xs).2.length ≤ 10000000 ∧
  ∀ g' H' p, Mv (LS i) g H g' H' → H p = none → LkAt C g' H' i a (f m xs).1 (b + 50000) → H' p = some (.lst ((f m xs).2.map V.int)) → Q (.ref p) H'
theorem flat_le {α : Type} (f : α → List Int) : ∀ (l : List α) (n : Nat), ((l.take n).flatMap f).length ≤ (l.flatMap f).length
  | [], n => by simp
  | a :: l, 0 => by simp
  | a :: l, n + 1 => by
    have := flat_le f l n
    rw [List.take_succ_cons, List.flatMap_cons, List.flatMap_cons, List.length_append, List.length_append]
    omega
theorem c_list_delivered (T : Txt K mg C) : C8.Cal P w K mg base 2 "list_delivered" (SpLkB K C (fun m xs => (m, mListD m (xs.getD 0 0))) 1) [] := by
  have cT : C8.Cal P w K mg base 1 "told_list" spTold [] := c_told_list T
  have cl := T.k_Link.cl
  have clR := T.k_Receiver.cl
  refine df_g T.g_list_delivered sc_list_delivered (fun vs H Q E h => ?_) (fun f cdv A outer s H vs Q E hr h => ?_)
  · obtain ⟨_, _, _, _, _, _, _, rfl, _⟩ := h
    rfl
  · obtain ⟨g, i, a, l, m, b, xs, rfl, hL, ok, hb, hx, hl, gl, hlen, k⟩ := h
    refine ⟨_, pss_cons (ps_set (i := 2) sc_list_delivered.nd rfl (.inl rfl) (pe_ix ix_list (pv 1) pe_int (fun _ _ => rfl)))
      (pss_cons (ps_set (i := 3) sc_list_delivered.nd rfl (.inl rfl) (pe_fld (pe_fld (pv 0) rfl) rfl))
      (pss_cons (ps_if (PW.pt (pw_or (pt_cmpR op_lt (pv 2) pe_int (nomark _)) (pw_or1 (pt_cmpR op_gt (pv 2) (pe_ln T.b_len (pv 3)) (nomark _))))) (pss_one (ps_ret (pe_lst (pa_cons (pe_gi T.n_OUT_OF_RANGE) pa_nil)))) pss_nil)
      (pss_cons (ps_set (i := 4) sc_list_delivered.nd rfl (.inl rfl) (pe_lst (pa_cons (pe_ln T.b_len (pv 3)) pa_nil)))
      (pss_cons (ps_for PassesOwn.never rfl (pi_list (pe_slice sl_list (pv 3) (po_some (pv 2)) po_none)) (pg_tup rfl (pgs_cons (pg_name (i := 5) sc_list_delivered.nd rfl (.inl rfl)) (pgs_cons (pg_name (i := 6) sc_list_delivered.nd rfl (.inl rfl)) pgs_nil)))
        (pss_cons (ps_expr (pe_bm PySem.F.plainAttrs_list PySem.F.slot_list_append PySem.F.type_list_append mt_append (pv 4) (pa_cons (pv 5) pa_nil)))
        (pss_one (ps_expr (pe_bm PySem.F.plainAttrs_list PySem.F.slot_list_extend PySem.F.type_list_extend mt_extend (pv 4) (pa_cons (C8.pe_c cT hr (by decide) (by rfl) (pa_cons (pv 6) pa_nil)) pa_nil))))))
      (pss_one (ps_ret (pv 4))))))), ?_⟩
    obtain ⟨z, rfl⟩ : ∃ x, xs = [x] := by
      match xs, hx with
      | [x], _ => exact ⟨x, rfl⟩
    have hL0 := hL
    obtain ⟨dx, fa, ca, sa, ra, aA, hF, hA, hS, hR⟩ := hL
    obtain ⟨dxr, d, lr, kvs, ps, rA, rD, rL, rk, rV, rP⟩ := hR
    have lp : ps.length = m.rc.del.length := Paired.length rP
    refine y_asg (x_ix (n := 0) (x_v 1) x_c hl rfl) ?_
    have eD : EvX (tFld K (tFld K (tVar 0) "receiver") "delivered") [some (.ref a), some (.ref l), some (.int z), none, none, none, none] H (.ref lr) := x_fld (x_fld (x_v 0) aA.2 cl (no_Link_receiver T) lk_Link_receiver) rA.2 clR (no_Receiver_delivered T) lk_Receiver_delivered
    refine y_asg eD ?_
    have ev : EtX (tOr (tTest (tOp (rI0 fun i j => V.bl (decide (i < j))) (tVar 2) (tC (V.int 0)))) (tTest (tOp (rI0 fun i j => V.bl (decide (j < i))) (tVar 2) (tCB (rLn K) (tCons (tVar 3) tNil))))) [some (.ref a), some (.ref l), some (.int z), some (.ref lr), none, none, none] H (decide (z < 0) || decide (((ps.map V.ref).length : Int) < z)) :=
      x_or (x_test (x_i0 (x_v 2) x_c)) fun _ => x_test (x_i0 (x_v 2) (x_len (x_v 3) (.of rL.2)))
    rw [List.length_map, lp] at ev
    have hm : mListD m z = if z < 0 ∨ (m.rc.del.length : Int) < z then [-1] else (m.rc.del.length : Int) :: (m.rc.del.drop z.toNat).flatMap delRow := rfl
    refine y_if ev (fun e => ?_) (fun e => ?_)
    · have hc : z < 0 ∨ (m.rc.del.length : Int) < z := by simpa using e
      refine y_retl (x_cons x_c x_nil) (by show 1 ≤ 1000; decide) fun p np => k g _ p (Mv.new' np) np ((hL0.new np).more (by omega)) ?_
      rw [upd_same]
      show _ = some (HO.lst ((mListD m z).map V.int))
      rw [hm, if_pos hc]
      rfl
    · have hc : ¬ (z < 0 ∨ (m.rc.del.length : Int) < z) := by
        intro y
        simp only [Bool.or_eq_false_iff, decide_eq_false_iff_not] at e
        exact y.elim e.1 e.2
      obtain ⟨n, rfl⟩ : ∃ n : Nat, z = (n : Int) := ⟨z.toNat, by omega⟩
      have hn : n ≤ m.rc.del.length := by omega
      rw [if_neg hc, Int.toNat_natCast] at hm
      have hlen' : (mListD m (n : Int)).length ≤ 10000000 := hlen
      rw [hm, List.length_cons] at hlen'
      dsimp only [tNext]
      have eN : EaX (tCons (tCB (rLn K) (tCons (tVar 3) tNil)) tNil) [some (.ref a), some (.ref l), some (.int (n : Int)), some (.ref lr), none, none, none] H [.int (ps.map V.ref).length] := x_cons (x_len (x_v 3) (.of rL.2)) x_nil
      rw [List.length_map, lp] at eN
      refine y_asgl eN (by show 1 ≤ 1000; decide) fun o no => ?_
      have s1 : Same H (upd H o (.lst [.int m.rc.del.length])) := same_new no
      refine ⟨_, rfl, _, rfl, n, rfl, lr, _, rfl, .of (s1 _ _ rL.2), fun q nq => ?_⟩
      have s2 : Same H (upd (upd H o (.lst [.int m.rc.del.length])) q (.lst (cutV (ps.map V.ref) (some (n : Int)) none))) := s1.trans (same_new nq)
      have ec : cutV (ps.map V.ref) (some (n : Int)) none = (ps.drop n).map V.ref := by
        rw [cut_from (by rw [List.length_map]; omega), List.map_drop]
      rw [ec] at s2 ⊢
      have noq : o ≠ q := ne_of_none upd_same nq
      have hq0 : H q = none := s1.free nq
      refine ⟨q, rfl, ⟨_, .of upd_same⟩, for_list (K := K) (a := q) (xs := (ps.drop n).map V.ref)
        (fun j σ H' => (∃ y y', σ = [some (.ref a), some (.ref l), some (.int (n : Int)), some (.ref lr), some (.ref o), y, y']) ∧ Same H H' ∧ H' q = some (.lst ((ps.drop n).map V.ref)) ∧ H' o = some (.lst (((m.rc.del.length : Int) :: ((m.rc.del.drop n).take j).flatMap delRow).map V.int)))
        ⟨⟨_, _, rfl⟩, s2, upd_same, ?_⟩ (fun j σ H' _ h => .of h.2.2.1) ?_ ?_⟩
      · rw [upd_ne noq, upd_same]
        rfl
      · rintro j y σ H' hy ⟨⟨y5, y6, rfl⟩, sm, hQ, hO⟩
        obtain ⟨t, ht, rfl⟩ := map_get hy
        rw [List.getElem?_drop] at ht
        obtain ⟨x, hx', p, t1, t2⟩ := Paired.get rP ht
        have hxd : (m.rc.del.drop n)[j]? = some x := by
          rw [List.getElem?_drop]
          exact hx'
        have T1 := sm _ _ t1.2
        have T2 := sm _ _ t2.2
        have fl := flat_le delRow (m.rc.del.drop n) j
        have fl2 := flat_le delRow (m.rc.del.drop n) (j + 1)
        rw [flat_snoc delRow _ j x hxd, List.length_append] at fl2
        have hrow : (delRow x).length = x.2.length + 2 := rfl
        refine ⟨t, _, rfl, .of T1, rfl, _, _, rfl, _, _, rfl, rfl, ?_⟩
        refine y_app (x_v 4) hO (x_v 5 rfl _ ⟨o, _, _, rfl, rfl, hO, ?_, ?_⟩)
        · rw [List.length_map, List.length_cons]
          exact Nat.lt_of_le_of_lt (by omega : _ ≤ 10000000) (by decide)
        have npo : p ≠ o := ne_of_none t2.2 no
        refine ⟨_, rfl, .inl ⟨rfl, _, SqL.of upd_same⟩, ?_⟩
        refine x_call (x_cons (x_v 6) x_nil) ⟨p, x.2, rfl, (upd_ne npo).trans T2, by omega, fun H2 r s3 nr hr3 => ?_⟩
        refine ⟨o, r, _, _, rfl, rfl, s3 _ _ upd_same, hr3, ?_, ?_⟩
        · unfold tl
          rw [List.length_append, List.length_map, List.length_map, List.length_cons, List.length_cons]
          exact Nat.le_trans (by show _ + 1 + 1 + (_ + 1) ≤ 10000002; omega) (by decide)
        have nqo : q ≠ o := noq.symm
        have smA : Same H H2 := fun b u h => s3 b u ((upd_ne (ne_of_none h no)).trans (sm b u h))
        refine ⟨⟨_, _, rfl⟩, same_upd smA no, ?_, ?_⟩
        · rw [upd_ne nqo]
          exact s3 _ _ ((upd_ne nqo).trans hQ)
        · rw [upd_same, flat_snoc delRow _ j x hxd]
          unfold delRow tl
          simp only [List.map_append, List.map_cons, List.map_nil, List.append_assoc, List.cons_append, List.nil_append]
      · rintro σ H' ⟨⟨y5, y6, rfl⟩, sm, hQ, hO⟩
        dsimp only
        refine y_ret (x_v 4) (k g H' o (Mv.same sm) no ((hL0.same sm).more (by omega)) ?_)
        rw [hO, List.length_map]
        show _ = some (HO.lst ((mListD m (n : Int)).map V.int))
        rw [hm, show (ps.drop n).length = (m.rc.del.drop n).length by rw [List.length_drop, List.length_drop, lp], List.take_length]
end
end W170

namespace W170
open PySem PySem.Spec PyProof.Rows L2
/-! ### lists of rows -/
def RowsAt (H : Hp) (as : List Addr) (fss : List (List Int)) : Prop := Paired (fun a fs => H a = some (.lst (fs.map V.int))) as fss
theorem RowsAt.same {H H' : Hp} {as : List Addr} {fss : List (List Int)} (h : RowsAt H as fss) (s : Same H H') : RowsAt H' as fss := Paired.mapP h fun a fs e => s _ _ e
theorem Paired.app {α β : Type} {F : α → β → Prop} : ∀ {l : List α} {m : List β} {l' : List α} {m' : List β}, Paired F l m → Paired F l' m' → Paired F (l ++ l') (m ++ m')
  | _, _, _, _, .nil, h => h
  | _, _, _, _, .cons r t, h => .cons r (Paired.app t h)
theorem RowsAt.off {H : Hp} {o : Addr} {u : HO} : ∀ {as : List Addr} {fss : List (List Int)}, RowsAt H as fss → (∀ a ∈ as, a ≠ o) → RowsAt (upd H o u) as fss
  | _, _, .nil, _ => .nil
  | _, _, .cons r t, h => .cons ((upd_ne (h _ (.head _))).trans r) (RowsAt.off t fun a ha => h a (.tail _ ha))
/-- the rows told so far: their list at o, which was not there at the start -/
structure StAt (H0 H : Hp) (o : Addr) (fss : List (List Int)) : Prop where
  same : Same H0 H
  new : H0 o = none
  at_ : ∃ as, H o = some (.lst (as.map V.ref)) ∧ RowsAt H as fss ∧ ∀ a ∈ as, a ≠ o
theorem StAt.len {H0 H : Hp} {o : Addr} {fss : List (List Int)} (h : StAt H0 H o fss) : ∃ as, H o = some (.lst (as.map V.ref)) ∧ RowsAt H as fss ∧ (∀ a ∈ as, a ≠ o) ∧ as.length = fss.length := by
  obtain ⟨as, h1, h2, h3⟩ := h.at_
  exact ⟨as, h1, h2, h3, Paired.length h2⟩
theorem StAt.more {H0 H H2 : Hp} {o : Addr} {fss gss : List (List Int)} {as bs : List Addr} (h : StAt H0 H o fss) (ha : H o = some (.lst (as.map V.ref))) (hr : RowsAt H as fss) (hn : ∀ a ∈ as, a ≠ o) (s : Same H H2) (hb : RowsAt H2 bs gss) (hf : ∀ b ∈ bs, H b = none) : StAt H0 (upd H2 o (.lst (as.map V.ref ++ bs.map V.ref))) o (fss ++ gss) := by
  have hb2 : ∀ b ∈ bs, b ≠ o := fun b m z => by
    have := hf b m
    rw [z, ha] at this
    cases this
  refine ⟨same_upd (h.same.trans s) h.new, h.new, as ++ bs, ?_, Paired.app ((hr.same s).off hn) (hb.off hb2), fun a m => ?_⟩
  · rw [upd_same, List.map_append]
  · rcases List.mem_append.mp m with q | q
    · exact hn a q
    · exact hb2 a q
section
variable {K : PySem.W.Frag} {D : Ends} {σ : L2.St} {H H0 : Hp} {ta : TE} {targs : TA} {o : Addr} {fss gss : List (List Int)} {fs : List Int} {vs : List V} {sp : Sp}
/-- rows.extend(f(..)) -/
theorem y_ext (h : StAt H0 H o fss) (ha : EvX ta σ H (.ref o)) (hargs : EaX targs σ H vs) (hl : fss.length + gss.length ≤ 10000)
    (hsp : ∀ Q : VK, (∀ H' r as, Same H H' → H' r = some (.lst (as.map V.ref)) → RowsAt H' as gss → (∀ a ∈ as, H a = none) → Q (.ref r) H') → sp (vs ++ []) H Q C8.E0)
    (q : ∀ H', StAt H0 H' o (fss ++ gss) → D.nx σ H') : tDrop (tBM K "list" rExtend ta (tCons (tCall sp [] C8.E0 targs) tNil)) D σ H := by
  obtain ⟨as, h1, h2, h3, h4⟩ := h.len
  refine ha _ ⟨.inl ⟨rfl, _, SqL.of h1⟩, hargs _ (hsp _ fun H' r bs s hr hb hf => ⟨o, r, _, _, rfl, rfl, s _ _ h1, hr, ?_, ?_⟩)⟩
  · rw [List.length_map, List.length_map, h4, Paired.length hb]
    exact Nat.le_trans hl (by decide)
  · exact q _ (h.more h1 h2 h3 s hb hf)
/-- rows.append([..]) -/
theorem y_appR (h : StAt H0 H o fss) (ha : EvX ta σ H (.ref o)) (hargs : EaX targs σ H (fs.map V.int)) (hn : fs.length ≤ 1000) (hl : fss.length < 10000)
    (q : ∀ H', StAt H0 H' o (fss ++ [fs]) → D.nx σ H') : tDrop (tBM K "list" rAppend ta (tCons (tLst targs) tNil)) D σ H := by
  obtain ⟨as, h1, h2, h3, h4⟩ := h.len
  refine ha _ ⟨.inl ⟨rfl, _, SqL.of h1⟩, hargs _ ⟨?_, fun p np => ⟨o, _, .ref p, rfl, rfl, (upd_ne (ne_of_none h1 np)).trans h1, ?_, ?_⟩⟩⟩
  · rw [List.length_map]
    exact Nat.le_trans hn (by decide)
  · rw [List.length_map, h4]
    exact Nat.lt_trans hl (by decide)
  · exact q _ (h.more (bs := [p]) h1 h2 h3 (same_new np) (.cons upd_same .nil) fun b m => by rw [List.mem_singleton.mp m]; exact np)
/-- rows.append(f(..)), f's answer a row -/
theorem y_appC (h : StAt H0 H o fss) (ha : EvX ta σ H (.ref o)) (hargs : EaX targs σ H vs) (hl : fss.length < 10000)
    (hsp : ∀ Q : VK, (∀ H' r, Same H H' → H r = none → H' r = some (.lst (fs.map V.int)) → Q (.ref r) H') → sp (vs ++ []) H Q C8.E0)
    (q : ∀ H', StAt H0 H' o (fss ++ [fs]) → D.nx σ H') : tDrop (tBM K "list" rAppend ta (tCons (tCall sp [] C8.E0 targs) tNil)) D σ H := by
  obtain ⟨as, h1, h2, h3, h4⟩ := h.len
  refine ha _ ⟨.inl ⟨rfl, _, SqL.of h1⟩, hargs _ (hsp _ fun H' p s np hp => ⟨o, _, .ref p, rfl, rfl, s _ _ h1, ?_, ?_⟩)⟩
  · rw [List.length_map, h4]
    exact Nat.lt_trans hl (by decide)
  · exact q _ (h.more (bs := [p]) h1 h2 h3 s (.cons hp .nil) fun b m => by rw [List.mem_singleton.mp m]; exact np)
end
theorem y_for2 {σ : L2.St} {H : Hp} {D : Ends} {ta : TA} {g : TG} {tb : TS} {i j : Int} {n : Nat} (Pv : Nat → L2.St → Hp → Prop) (ha : EaX ta σ H [.int i, .int j]) (hb : -(2 ^ 62) ≤ i ∧ i < 2 ^ 62 ∧ -(2 ^ 62) ≤ j ∧ j < 2 ^ 62) (hn : (j - i).toNat = n) (h0 : Pv 0 σ H)
    (hs : ∀ (k : Nat) σ H, k < n → Pv k σ H → g (.int (i + k)) σ H fun σ2 H2 => tb { D with nx := Pv (k + 1), ct := Pv (k + 1), bk := D.nx } σ2 H2) (hd : ∀ σ H, Pv n σ H → D.nx σ H) : tFor (iRng2 ta) g tb D σ H := by
  refine ha _ ⟨i, j, rfl, hb, ?_⟩
  rw [hn]
  exact for_range Pv h0 hs hd
/-! ### the rows of the failure trace -/
def ssRow (n : Nat) : List Int := [1, 3, (n : Int) + 1, 0, 5]
def tsRows (n pl : Nat) : List (List Int) := [ssRow n, [3, (pl : Int), 0]]
def asRows (pl : Nat) : List (List Int) := [[6], [7, (pl : Int), 0]]
def rows1 (W M : Nat) : List (List Int) := (List.range W).flatMap (fun i => tsRows i 0) ++ [[2, 0]] ++ asRows 0 ++ (List.range (M + 1 - W - W)).flatMap (fun i => tsRows (W + i) 1 ++ asRows 0) ++ [[3, 0, 0]]
def winC (W M : Nat) : Nat := (M + W - 1) / W - 1
def rows2 (W M : Nat) : List (List Int) := [[6]] ++ (List.range (winC W M)).flatMap (fun j => (List.range W).flatMap (fun i => tsRows (j * W + i) 0) ++ asRows 1) ++ (List.range W).map (fun i => ssRow (winC W M * W + i)) ++ [[7, 0, 0]]
theorem fm_succ {α : Type} (f : Nat → List α) (j : Nat) : (List.range (j + 1)).flatMap f = (List.range j).flatMap f ++ f j := by
  rw [List.range_succ, List.flatMap_append]
  congr 1
  exact List.append_nil _
theorem fm_len {α : Type} (f : Nat → List α) (c : Nat) (h : ∀ i, (f i).length = c) : ∀ n, ((List.range n).flatMap f).length = n * c
  | 0 => by simp
  | n + 1 => by
    rw [fm_succ, List.length_append, fm_len f c h n, h, Nat.succ_mul]
section
variable {P : Program} {w : World} {K : PySem.W.Frag} {mg : Str → Option Value} {base : Heap} {C : Cs}
def spSS : Sp := fun vs H Q _ => ∃ n : Nat, vs = [.int n] ∧ ∀ H' p, Same H H' → H p = none → H' p = some (.lst ((ssRow n).map V.int)) → Q (.ref p) H'
theorem c_send_step (T : Txt K mg C) : C8.Cal P w K mg base 1 "send_step" spSS [] := by
  refine df_g T.g_send_step sc_send_step (fun vs H Q E h => ?_) (fun f cdv A outer s H vs Q E hr h => ?_)
  · obtain ⟨_, rfl, _⟩ := h
    rfl
  · obtain ⟨n, rfl, k⟩ := h
    refine ⟨_, pss_cons (ps_set (i := 1) sc_send_step.nd rfl (.inl rfl) (pe_lst (pa_cons (pe_op op_add (pv 0) pe_int) (pa_cons pe_int (pa_cons pe_int pa_nil)))))
      (pss_one (ps_ret (pe_op op_cat (pe_lst (pa_cons (pe_gi T.n_SEND_ITEM) (pa_cons (pe_ln T.b_len (pv 1)) pa_nil))) (pv 1)))), ?_⟩
    refine y_asgl (x_cons (x_i0 (x_v 0) x_c) (x_cons x_c (x_cons x_c x_nil))) (by show 3 ≤ 1000; decide) fun p np => ?_
    have ea : EaX (tCons (tC (V.int 1)) (tCons (tCB (rLn K) (tCons (tVar 1) tNil)) tNil)) [some (.int n), some (.ref p)] (upd H p (.lst [.int ((n : Int) + 1), .int 0, .int 5])) [.int 1, .int 3] := x_cons x_c (x_cons (x_len (x_v 1) (.of upd_same)) x_nil)
    refine y_retcat ea (by show 2 ≤ 1000; decide) fun q nq => ?_
    refine ⟨_, rfl, q, p, _, _, rfl, rfl, upd_same, (upd_ne (ne_of_none upd_same nq)).trans upd_same, (by show 2 + 3 ≤ sizeLine; decide), fun o no => ?_⟩
    refine k _ o ((same_new np).trans ((same_new nq).trans (same_new no))) (Same.free (same_new np) (Same.free (same_new nq) no)) ?_
    rw [upd_same]
    rfl
def spRows (f : Nat → Nat → List (List Int)) (ok : Nat → Nat → Prop) : Sp := fun vs H Q _ => ∃ n pl : Nat, vs = [.int n, .int pl] ∧ ok n pl ∧ ∀ H' r as, Same H H' → H' r = some (.lst (as.map V.ref)) → RowsAt H' as (f n pl) → (∀ a ∈ as, H a = none) → Q (.ref r) H'
theorem c_transfer (T : Txt K mg C) : C8.Cal P w K mg base 2 "transfer_steps" (spRows tsRows fun _ _ => True) [] := by
  have cS : C8.Cal P w K mg base 1 "send_step" spSS [] := c_send_step T
  refine df_g T.g_transfer_steps sc_transfer_steps (fun vs H Q E h => ?_) (fun f cdv A outer s H vs Q E hr h => ?_)
  · obtain ⟨_, _, rfl, _⟩ := h
    rfl
  · obtain ⟨n, pl, rfl, _, k⟩ := h
    refine ⟨_, pss_one (ps_ret (pe_lst (pa_cons (C8.pe_c cS hr (by decide) (by rfl) (pa_cons (pv 0) pa_nil)) (pa_cons (pe_lst (pa_cons (pe_gi T.n_DELIVER_FRAME) (pa_cons (pv 1) (pa_cons pe_int pa_nil)))) pa_nil)))), ?_⟩
    refine x_call (x_cons (x_v 0) x_nil) ⟨n, rfl, fun H1 p s1 np hp => ?_⟩
    refine ⟨_, rfl, (by show 3 ≤ sizeLine; decide), fun q nq => ⟨by show 2 ≤ sizeLine; decide, fun r nr => ?_⟩⟩
    have s2 : Same H1 (upd H1 q (.lst [.int 3, .int pl, .int 0])) := same_new nq
    have s3 := s2.trans (same_new nr (o := .lst [.ref p, .ref q]))
    refine k _ r [p, q] (s1.trans s3) upd_same (.cons (s3 _ _ hp) (.cons ((same_new nr) _ _ upd_same) .nil)) fun a m => ?_
    rcases List.mem_cons.mp m with z | z
    · rw [z]
      exact np
    · rw [List.mem_singleton.mp z]
      exact s1.free nq
def spAS : Sp := fun vs H Q _ => ∃ pl : Nat, vs = [.int pl] ∧ ∀ H' r as, Same H H' → H' r = some (.lst (as.map V.ref)) → RowsAt H' as (asRows pl) → (∀ a ∈ as, H a = none) → Q (.ref r) H'
theorem c_acknowledge (T : Txt K mg C) : C8.Cal P w K mg base 1 "acknowledge_steps" spAS [] := by
  refine df_g T.g_acknowledge_steps sc_acknowledge_steps (fun vs H Q E h => ?_) (fun f cdv A outer s H vs Q E hr h => ?_)
  · obtain ⟨_, rfl, _⟩ := h
    rfl
  · obtain ⟨pl, rfl, k⟩ := h
    refine ⟨_, pss_one (ps_ret (pe_lst (pa_cons (pe_lst (pa_cons (pe_gi T.n_SEND_ACK) pa_nil)) (pa_cons (pe_lst (pa_cons (pe_gi T.n_DELIVER_ACK) (pa_cons (pv 0) (pa_cons pe_int pa_nil)))) pa_nil)))), ?_⟩
    refine ⟨by show 1 ≤ sizeLine; decide, fun p np => ⟨_, rfl, (by show 3 ≤ sizeLine; decide), fun q nq => ⟨by show 2 ≤ sizeLine; decide, fun r nr => ?_⟩⟩⟩
    have s1 : Same H (upd H p (.lst [.int 6])) := same_new np
    have s2 := same_new nq (o := .lst [.int 7, .int pl, .int 0])
    have s3 := same_new nr (o := .lst [.ref p, .ref q])
    refine k _ r [p, q] (s1.trans (s2.trans s3)) upd_same (.cons ((s2.trans s3) _ _ upd_same) (.cons (s3 _ _ upd_same) .nil)) fun a m => ?_
    rcases List.mem_cons.mp m with z | z
    · rw [z]
      exact np
    · rw [List.mem_singleton.mp z]
      exact s1.free nq
def spRowsR (f : Nat → Nat → List (List Int)) (ok : Nat → Nat → Prop) : Sp := fun vs H Q _ => ∃ n pl : Nat, vs = [.int n, .int pl] ∧ ok n pl ∧ ∀ H' r as, Same H H' → H' r = some (.lst (as.map V.ref)) → RowsAt H' as (f n pl) → Q (.ref r) H'
theorem c_late_frame (T : Txt K mg C) : C8.Cal P w K mg base 3 "late_frame_steps" (spRowsR rows1 fun W M => W ≤ 8 ∧ M ≤ 200 ∧ W < M) [] := by
  have cT : C8.Cal P w K mg base 2 "transfer_steps" (spRows tsRows fun _ _ => True) [] := c_transfer T
  have cA : C8.Cal P w K mg base 1 "acknowledge_steps" spAS [] := c_acknowledge T
  refine df_g T.g_late_frame_steps sc_late_frame_steps (fun vs H Q E h => ?_) (fun f cdv A outer s H vs Q E hr h => ?_)
  · obtain ⟨_, _, rfl, _⟩ := h
    rfl
  · obtain ⟨W, M, rfl, ⟨hW, hM, hWM⟩, k⟩ := h
    refine ⟨_, pss_cons (ps_set (i := 2) sc_late_frame_steps.nd rfl (.inl rfl) (pe_lst pa_nil))
      (pss_cons (ps_for PassesOwn.never rfl (pi_range1 (by rfl) T.b_range (pa_cons (pv 0) pa_nil)) (pg_name (i := 3) sc_late_frame_steps.nd rfl (.inl rfl))
        (pss_one (ps_expr (pe_bm PySem.F.plainAttrs_list PySem.F.slot_list_extend PySem.F.type_list_extend mt_extend (pv 2) (pa_cons (C8.pe_c cT hr (by decide) (by rfl) (pa_cons (pv 3) (pa_cons pe_int pa_nil))) pa_nil)))))
      (pss_cons (ps_expr (pe_bm PySem.F.plainAttrs_list PySem.F.slot_list_append PySem.F.type_list_append mt_append (pv 2) (pa_cons (pe_lst (pa_cons (pe_gi T.n_RETRANSMIT) (pa_cons pe_int pa_nil))) pa_nil)))
      (pss_cons (ps_expr (pe_bm PySem.F.plainAttrs_list PySem.F.slot_list_extend PySem.F.type_list_extend mt_extend (pv 2) (pa_cons (C8.pe_c cA hr (by decide) (by rfl) (pa_cons pe_int pa_nil)) pa_nil)))
      (pss_cons (ps_for PassesOwn.never rfl (pi_range2 (by rfl) T.b_range (pa_cons (pv 0) (pa_cons (pe_op op_sub (pe_op op_add (pv 1) pe_int) (pv 0)) pa_nil))) (pg_name (i := 3) sc_late_frame_steps.nd rfl (.inl rfl))
        (pss_cons (ps_expr (pe_bm PySem.F.plainAttrs_list PySem.F.slot_list_extend PySem.F.type_list_extend mt_extend (pv 2) (pa_cons (C8.pe_c cT hr (by decide) (by rfl) (pa_cons (pv 3) (pa_cons pe_int pa_nil))) pa_nil)))
        (pss_one (ps_expr (pe_bm PySem.F.plainAttrs_list PySem.F.slot_list_extend PySem.F.type_list_extend mt_extend (pv 2) (pa_cons (C8.pe_c cA hr (by decide) (by rfl) (pa_cons pe_int pa_nil)) pa_nil))))))
      (pss_cons (ps_expr (pe_bm PySem.F.plainAttrs_list PySem.F.slot_list_append PySem.F.type_list_append mt_append (pv 2) (pa_cons (pe_lst (pa_cons (pe_gi T.n_DELIVER_FRAME) (pa_cons pe_int (pa_cons pe_int pa_nil)))) pa_nil)))
      (pss_one (ps_ret (pv 2)))))))), ?_⟩
    refine y_asgl x_nil (by show 0 ≤ 1000; decide) fun o no => ?_
    have st0 : StAt H (upd H o (.lst [])) o [] := ⟨same_new no, no, [], upd_same, .nil, fun a m => by cases m⟩
    have l1 := fm_len (fun i => tsRows i 0) 2 (fun _ => rfl)
    have l2 := fm_len (fun i => tsRows (W + i) 1 ++ asRows 0) 4 (fun _ => rfl)
    refine ⟨_, rfl, _, rfl, by omega, by omega, for_range (lo := 0) (n := ((W : Int)).toNat) (fun j σ H' => (∃ y, σ = [some (.int W), some (.int M), some (.ref o), y]) ∧ StAt H H' o ((List.range j).flatMap fun i => tsRows i 0)) ⟨⟨_, rfl⟩, st0⟩ ?_ ?_⟩
    · rintro j σ H1 hj ⟨⟨y, rfl⟩, st⟩
      have hl := l1 j
      refine y_ext st (x_v 2) (x_cons (x_v 3) (x_cons x_c x_nil)) (by rw [hl]; show j * 2 + 2 ≤ 10000; omega) (fun Q' q' => ⟨j, 0, by rw [Int.zero_add]; rfl, trivial, q'⟩) fun H2 st2 => ⟨⟨_, rfl⟩, ?_⟩
      rw [fm_succ]
      exact st2
    · rintro σ H1 ⟨⟨y, rfl⟩, st⟩
      rw [Int.toNat_natCast] at st
      have hl := l1 W
      dsimp only
      refine y_appR (fs := [2, 0]) st (x_v 2) (x_cons x_c (x_cons x_c x_nil)) (by show 2 ≤ 1000; decide) (by rw [hl]; omega) fun H2 st2 => ?_
      refine y_ext st2 (x_v 2) (x_cons x_c x_nil) (by rw [List.length_append, hl]; show W * 2 + 1 + 2 ≤ 10000; omega) (fun Q' q' => ⟨0, rfl, q'⟩) fun H3 st3 => ?_
      have hl3 : ((List.range W).flatMap (fun i => tsRows i 0) ++ [[2, 0]] ++ asRows 0).length = W * 2 + 3 := by
        rw [List.length_append, List.length_append, hl]
        rfl
      have hk : rows1 W M = (List.range W).flatMap (fun i => tsRows i 0) ++ [[2, 0]] ++ asRows 0 ++ (List.range (M + 1 - W - W)).flatMap (fun i => tsRows (W + i) 1 ++ asRows 0) ++ [[3, 0, 0]] := rfl
      generalize (List.range W).flatMap (fun i => tsRows i 0) ++ [[2, 0]] ++ asRows 0 = pre at st3 hl3 hk
      have en : ((M : Int) + 1 - (W : Int) - (W : Int)).toNat = M + 1 - W - W := by omega
      refine ⟨_, rfl, _, rfl, _, _, rfl, rfl, _, rfl, _, _, rfl, rfl, _, _, rfl, ⟨by omega, by omega, by omega, by omega⟩, ?_⟩
      rw [en]
      refine for_range (lo := (W : Int)) (n := M + 1 - W - W) (fun j σ H' => (∃ y, σ = [some (.int W), some (.int M), some (.ref o), y]) ∧ StAt H H' o (pre ++ (List.range j).flatMap fun i => tsRows (W + i) 1 ++ asRows 0)) ⟨⟨_, rfl⟩, by rw [show (List.range 0).flatMap (fun i => tsRows (W + i) 1 ++ asRows 0) = [] from rfl, List.append_nil]; exact st3⟩ ?_ ?_
      · rintro j σ H4 hj ⟨⟨y, rfl⟩, st4⟩
        have hl4 := l2 j
        refine y_ext st4 (x_v 2) (x_cons (x_v 3) (x_cons x_c x_nil)) (by rw [List.length_append, hl4, hl3]; show W * 2 + 3 + j * 4 + 2 ≤ 10000; omega) (fun Q' q' => ⟨W + j, 1, by rw [Int.natCast_add]; rfl, trivial, q'⟩) fun H5 st5 => ?_
        refine y_ext st5 (x_v 2) (x_cons x_c x_nil) (by rw [List.length_append, List.length_append, hl4, hl3]; show W * 2 + 3 + j * 4 + 2 + 2 ≤ 10000; omega) (fun Q' q' => ⟨0, rfl, q'⟩) fun H6 st6 => ⟨⟨_, rfl⟩, ?_⟩
        rw [fm_succ, ← List.append_assoc, ← List.append_assoc]
        exact st6
      · rintro σ H4 ⟨⟨y, rfl⟩, st4⟩
        have hl4 := l2 (M + 1 - W - W)
        dsimp only
        refine y_appR (fs := [3, 0, 0]) st4 (x_v 2) (x_cons x_c (x_cons x_c (x_cons x_c x_nil))) (by show 3 ≤ 1000; decide) (by rw [List.length_append, hl4, hl3]; omega) fun H5 st5 => ?_
        obtain ⟨as, h1, h2, h3⟩ := st5.at_
        refine y_ret (x_v 2) (k H5 o as st5.same h1 ?_)
        rw [hk]
        exact h2
theorem c_late_ack (T : Txt K mg C) : C8.Cal P w K mg base 3 "late_ack_steps" (spRowsR rows2 fun W M => 1 ≤ W ∧ W ≤ 8 ∧ M ≤ 200 ∧ W < M) [] := by
  have cT : C8.Cal P w K mg base 2 "transfer_steps" (spRows tsRows fun _ _ => True) [] := c_transfer T
  have cA : C8.Cal P w K mg base 1 "acknowledge_steps" spAS [] := c_acknowledge T
  have cS : C8.Cal P w K mg base 1 "send_step" spSS [] := c_send_step T
  refine df_g T.g_late_ack_steps sc_late_ack_steps (fun vs H Q E h => ?_) (fun f cdv A outer s H vs Q E hr h => ?_)
  · obtain ⟨_, _, rfl, _⟩ := h
    rfl
  · obtain ⟨W, M, rfl, ⟨hW1, hW, hM, hWM⟩, k⟩ := h
    refine ⟨_, pss_cons (ps_set (i := 2) sc_late_ack_steps.nd rfl (.inl rfl) (pe_lst (pa_cons (pe_lst (pa_cons (pe_gi T.n_SEND_ACK) pa_nil)) pa_nil)))
      (pss_cons (ps_set (i := 3) sc_late_ack_steps.nd rfl (.inl rfl) (pe_op op_sub (pe_op op_fdiv (pe_op op_sub (pe_op op_add (pv 1) (pv 0)) pe_int) (pv 0)) pe_int))
      (pss_cons (ps_for PassesOwn.never rfl (pi_range1 (by rfl) T.b_range (pa_cons (pv 3) pa_nil)) (pg_name (i := 4) sc_late_ack_steps.nd rfl (.inl rfl))
        (pss_cons (ps_for PassesOwn.never rfl (pi_range2 (by rfl) T.b_range (pa_cons (pe_op op_mul (pv 4) (pv 0)) (pa_cons (pe_op op_add (pe_op op_mul (pv 4) (pv 0)) (pv 0)) pa_nil))) (pg_name (i := 5) sc_late_ack_steps.nd rfl (.inl rfl))
          (pss_one (ps_expr (pe_bm PySem.F.plainAttrs_list PySem.F.slot_list_extend PySem.F.type_list_extend mt_extend (pv 2) (pa_cons (C8.pe_c cT hr (by decide) (by rfl) (pa_cons (pv 5) (pa_cons pe_int pa_nil))) pa_nil)))))
        (pss_one (ps_expr (pe_bm PySem.F.plainAttrs_list PySem.F.slot_list_extend PySem.F.type_list_extend mt_extend (pv 2) (pa_cons (C8.pe_c cA hr (by decide) (by rfl) (pa_cons pe_int pa_nil)) pa_nil))))))
      (pss_cons (ps_for PassesOwn.never rfl (pi_range2 (by rfl) T.b_range (pa_cons (pe_op op_mul (pv 3) (pv 0)) (pa_cons (pe_op op_add (pe_op op_mul (pv 3) (pv 0)) (pv 0)) pa_nil))) (pg_name (i := 5) sc_late_ack_steps.nd rfl (.inl rfl))
        (pss_one (ps_expr (pe_bm PySem.F.plainAttrs_list PySem.F.slot_list_append PySem.F.type_list_append mt_append (pv 2) (pa_cons (C8.pe_c cS hr (by decide) (by rfl) (pa_cons (pv 5) pa_nil)) pa_nil)))))
      (pss_cons (ps_expr (pe_bm PySem.F.plainAttrs_list PySem.F.slot_list_append PySem.F.type_list_append mt_append (pv 2) (pa_cons (pe_lst (pa_cons (pe_gi T.n_DELIVER_ACK) (pa_cons pe_int (pa_cons pe_int pa_nil)))) pa_nil)))
      (pss_one (ps_ret (pv 2))))))), ?_⟩
    -- steps = [[SEND_ACK]]
    refine ⟨by show 1 ≤ sizeLine; decide, fun p0 np0 => ⟨by show 1 ≤ sizeLine; decide, fun o no => ?_⟩⟩
    have s1 : Same H (upd H p0 (.lst [.int 6])) := same_new np0
    have no0 : H o = none := s1.free no
    have npo : p0 ≠ o := ne_of_none upd_same no
    have st0 : StAt H (upd (upd H p0 (.lst [.int 6])) o (.lst [.ref p0])) o [[6]] := ⟨s1.trans (same_new no), no0, [p0], upd_same, .cons ((upd_ne npo).trans upd_same) .nil, fun a m => by rw [List.mem_singleton.mp m]; exact npo⟩
    generalize (upd (upd H p0 (.lst [.int 6])) o (.lst [.ref p0])) = H1 at st0
    -- windows
    have hdiv : 1 ≤ (M + W - 1) / W := (Nat.le_div_iff_mul_le (by omega)).mpr (by omega)
    have hdu : (M + W - 1) / W ≤ 207 := Nat.le_trans (Nat.div_le_self _ _) (by omega)
    have hc : winC W M + 1 = (M + W - 1) / W := by
      unfold winC
      omega
    have ec : ((M : Int) + (W : Int) - 1) / (W : Int) - 1 = (winC W M : Int) := by
      rw [show (M : Int) + (W : Int) - 1 = ((M + W - 1 : Nat) : Int) by omega, ← Int.natCast_ediv]
      omega
    have hk : rows2 W M = [[6]] ++ (List.range (winC W M)).flatMap (fun j => (List.range W).flatMap (fun i => tsRows (j * W + i) 0) ++ asRows 1) ++ (List.range W).map (fun i => ssRow (winC W M * W + i)) ++ [[7, 0, 0]] := rfl
    generalize winC W M = c at hc ec hk
    have eC : EvX (tOp (rI0 fun i j => V.int (i - j)) (tOp (rI CDiv fun i j => V.int (i / j)) (tOp (rI0 fun i j => V.int (i - j)) (tOp (rI0 fun i j => V.int (i + j)) (tVar 1) (tVar 0)) (tC (V.int 1))) (tVar 0)) (tC (V.int 1))) [some (.int W), some (.int M), some (.ref o), none, none, none] H1 (.int (((M : Int) + (W : Int) - 1) / (W : Int) - 1)) :=
      x_i0 (x_iC (x_i0 (x_i0 (x_v 1) (x_v 0)) x_c) (x_v 0) ⟨by omega, by omega⟩) x_c
    rw [ec] at eC
    refine y_asg eC ?_
    have l1 : ∀ j, ∀ n, ((List.range n).flatMap fun i => tsRows (j * W + i) 0).length = n * 2 := fun j => fm_len (fun i => tsRows (j * W + i) 0) 2 (fun _ => rfl)
    have l2 := fm_len (fun j => (List.range W).flatMap (fun i => tsRows (j * W + i) 0) ++ asRows 1) (W * 2 + 2) (fun j => by rw [List.length_append, l1]; rfl)
    have cb : ∀ j, j ≤ c → j * (W * 2 + 2) ≤ 207 * 18 ∧ j * W ≤ 207 * 8 := fun j hj => ⟨Nat.mul_le_mul (by omega) (by omega), Nat.mul_le_mul (by omega) (by omega)⟩
    have mulc : ∀ j : Nat, ((j : Int)) * (W : Int) = ((j * W : Nat) : Int) := fun j => (Int.natCast_mul j W).symm
    refine ⟨_, rfl, _, rfl, by omega, by omega, for_range (lo := 0) (n := ((c : Int)).toNat) (fun j σ H' => (∃ y z, σ = [some (.int W), some (.int M), some (.ref o), some (.int c), y, z]) ∧ StAt H H' o ([[6]] ++ (List.range j).flatMap fun j => (List.range W).flatMap (fun i => tsRows (j * W + i) 0) ++ asRows 1)) ⟨⟨_, _, rfl⟩, st0⟩ ?_ ?_⟩
    · rintro j σ H2 hj ⟨⟨y, z, rfl⟩, st⟩
      have hj' : j < c := by omega
      obtain ⟨b1, b2⟩ := cb j (by omega)
      have hl := l2 j
      have hpre : ([[6]] ++ (List.range j).flatMap fun j => (List.range W).flatMap (fun i => tsRows (j * W + i) 0) ++ asRows 1).length ≤ 4000 := by
        rw [List.length_append, hl]
        show 1 + _ ≤ 4000
        omega
      have hsucc := fm_succ (fun j => (List.range W).flatMap (fun i => tsRows (j * W + i) 0) ++ asRows 1) j
      generalize (List.range j).flatMap (fun j => (List.range W).flatMap (fun i => tsRows (j * W + i) 0) ++ asRows 1) = pre at st hpre hsucc
      have em : EvX (tOp (rI CMul fun i j => V.int (i * j)) (tVar 4) (tVar 0)) [some (.int W), some (.int M), some (.ref o), some (.int c), some (.int (0 + (j : Int))), z] H2 (.int ((0 + (j : Int)) * (W : Int))) := x_iC (x_v 4) (x_v 0) (.inl ⟨by omega, by omega⟩)
      rw [Int.zero_add, mulc] at em
      have ea : EaX (tCons (tOp (rI CMul fun i j => V.int (i * j)) (tVar 4) (tVar 0)) (tCons (tOp (rI0 fun i j => V.int (i + j)) (tOp (rI CMul fun i j => V.int (i * j)) (tVar 4) (tVar 0)) (tVar 0)) tNil)) [some (.int W), some (.int M), some (.ref o), some (.int c), some (.int (0 + (j : Int))), z] H2 [.int (j * W : Nat), .int (((j * W : Nat) : Int) + (W : Int))] := by
        rw [Int.zero_add]
        exact x_cons em (x_cons (x_i0 em (x_v 0)) x_nil)
      refine y_for2 (n := W) (fun n σ H' => (∃ z, σ = [some (.int W), some (.int M), some (.ref o), some (.int c), some (.int (0 + (j : Int))), z]) ∧ StAt H H' o ([[6]] ++ pre ++ (List.range n).flatMap fun i => tsRows (j * W + i) 0)) ea ⟨by omega, by omega, by omega, by omega⟩ (by omega) ⟨⟨_, rfl⟩, by rw [show (List.range 0).flatMap (fun i => tsRows (j * W + i) 0) = [] from rfl, List.append_nil]; exact st⟩ ?_ ?_
      · rintro n σ H3 hn ⟨⟨z, rfl⟩, st3⟩
        have hl3 := l1 j n
        refine y_ext st3 (x_v 2) (x_cons (x_v 5) (x_cons x_c x_nil)) (by rw [List.length_append, hl3]; show _ + n * 2 + 2 ≤ 10000; omega) (fun Q' q' => ⟨j * W + n, 0, by rw [Int.natCast_add]; rfl, trivial, q'⟩) fun H4 st4 => ⟨⟨_, rfl⟩, ?_⟩
        rw [fm_succ, ← List.append_assoc]
        exact st4
      · rintro σ H3 ⟨⟨z, rfl⟩, st3⟩
        have hl3 := l1 j W
        dsimp only
        refine y_ext st3 (x_v 2) (x_cons x_c x_nil) (by rw [List.length_append, hl3]; show _ + W * 2 + 2 ≤ 10000; omega) (fun Q' q' => ⟨1, rfl, q'⟩) fun H4 st4 => ⟨⟨_, _, rfl⟩, ?_⟩
        rw [hsucc, ← List.append_assoc, ← List.append_assoc]
        exact st4
    · rintro σ H2 ⟨⟨y, z, rfl⟩, st⟩
      rw [Int.toNat_natCast] at st
      obtain ⟨b1, b2⟩ := cb c (Nat.le_refl _)
      have hl := l2 c
      have hpre : ([[6]] ++ (List.range c).flatMap fun j => (List.range W).flatMap (fun i => tsRows (j * W + i) 0) ++ asRows 1).length ≤ 4000 := by
        rw [List.length_append, hl]
        show 1 + _ ≤ 4000
        omega
      generalize [[6]] ++ (List.range c).flatMap (fun j => (List.range W).flatMap (fun i => tsRows (j * W + i) 0) ++ asRows 1) = pre at st hpre hk
      have em : EvX (tOp (rI CMul fun i j => V.int (i * j)) (tVar 3) (tVar 0)) [some (.int W), some (.int M), some (.ref o), some (.int c), y, z] H2 (.int ((c : Int) * (W : Int))) := x_iC (x_v 3) (x_v 0) (.inl ⟨by omega, by omega⟩)
      rw [mulc] at em
      have ea : EaX (tCons (tOp (rI CMul fun i j => V.int (i * j)) (tVar 3) (tVar 0)) (tCons (tOp (rI0 fun i j => V.int (i + j)) (tOp (rI CMul fun i j => V.int (i * j)) (tVar 3) (tVar 0)) (tVar 0)) tNil)) [some (.int W), some (.int M), some (.ref o), some (.int c), y, z] H2 [.int (c * W : Nat), .int (((c * W : Nat) : Int) + (W : Int))] := x_cons em (x_cons (x_i0 em (x_v 0)) x_nil)
      refine y_for2 (n := W) (fun n σ H' => (∃ z, σ = [some (.int W), some (.int M), some (.ref o), some (.int c), y, z]) ∧ StAt H H' o (pre ++ (List.range n).map fun i => ssRow (c * W + i))) ea ⟨by omega, by omega, by omega, by omega⟩ (by omega) ⟨⟨_, rfl⟩, by rw [show (List.range 0).map (fun i => ssRow (c * W + i)) = [] from rfl, List.append_nil]; exact st⟩ ?_ ?_
      · rintro n σ H3 hn ⟨⟨z, rfl⟩, st3⟩
        refine y_appC (fs := ssRow (c * W + n)) st3 (x_v 2) (x_cons (x_v 5) x_nil) (by rw [List.length_append, List.length_map, List.length_range]; omega) (fun Q' q' => ⟨c * W + n, by rw [Int.natCast_add]; rfl, q'⟩) fun H4 st4 => ⟨⟨_, rfl⟩, ?_⟩
        rw [opn_succ, ← List.append_assoc]
        exact st4
      · rintro σ H3 ⟨⟨z, rfl⟩, st3⟩
        dsimp only
        refine y_appR (fs := [7, 0, 0]) st3 (x_v 2) (x_cons x_c (x_cons x_c (x_cons x_c x_nil))) (by show 3 ≤ 1000; decide) (by rw [List.length_append, List.length_map, List.length_range]; omega) fun H4 st4 => ?_
        obtain ⟨as, h1, h2, h3⟩ := st4.at_
        refine y_ret (x_v 2) (k H4 o as st4.same h1 ?_)
        rw [hk]
        exact h2
/-! ### the trace, told -/
def failRows (w m k r : Int) : List (List Int) := if missB w m k r = 1 then rows1 w.toNat m.toNat else if missB w m k r = 2 then rows2 w.toNat m.toNat else []
def spFail (K : PySem.W.Frag) : Sp := fun vs H Q _ => ∃ (p : Addr) (w m k r o : Int), vs = [.ref p] ∧ SqL K H p ([w, m, k, r, o].map V.int) ∧ rangeB w m k r o = true ∧ ∀ H' q as, Same H H' → H' q = some (.lst (as.map V.ref)) → RowsAt H' as (failRows w m k r) → Q (.ref q) H'
theorem c_failure_steps (T : Txt K mg C) : C8.Cal P w K mg base 4 "failure_steps" (spFail K) [] := by
  have cV : C8.Cal P w K mg base 1 "violated_condition" (spMiss K) [] := c_violated T
  have cF : C8.Cal P w K mg base 3 "late_frame_steps" (spRowsR rows1 fun W M => W ≤ 8 ∧ M ≤ 200 ∧ W < M) [] := c_late_frame T
  have cA : C8.Cal P w K mg base 3 "late_ack_steps" (spRowsR rows2 fun W M => 1 ≤ W ∧ W ≤ 8 ∧ M ≤ 200 ∧ W < M) [] := c_late_ack T
  refine df_g T.g_failure_steps sc_failure_steps (fun vs H Q E h => ?_) (fun f cdv A outer s H vs Q E hr h => ?_)
  · obtain ⟨_, _, _, _, _, _, rfl, _⟩ := h
    rfl
  · obtain ⟨p, w, m, kf, r, o, rfl, hp, e, k⟩ := h
    refine ⟨_, pss_cons (ps_set (i := 1) sc_failure_steps.nd rfl (.inl rfl) (C8.pe_c cV hr (by decide) (by rfl) (pa_cons (pv 0) pa_nil)))
      (pss_cons (ps_if (pt_cmpR op_eq (pv 1) (pe_gi T.n_FRAME_CONDITION) (nomark _)) (pss_one (ps_ret (C8.pe_c cF hr (by decide) (by rfl) (pa_cons (pe_ix ix_list (pv 0) pe_int (fun _ _ => rfl)) (pa_cons (pe_ix ix_list (pv 0) pe_int (fun _ _ => rfl)) pa_nil))))) pss_nil)
      (pss_cons (ps_if (pt_cmpR op_eq (pv 1) (pe_gi T.n_ACK_CONDITION) (nomark _)) (pss_one (ps_ret (C8.pe_c cA hr (by decide) (by rfl) (pa_cons (pe_ix ix_list (pv 0) pe_int (fun _ _ => rfl)) (pa_cons (pe_ix ix_list (pv 0) pe_int (fun _ _ => rfl)) pa_nil))))) pss_nil)
      (pss_one (ps_ret (pe_lst pa_nil))))), ?_⟩
    unfold rangeB at e
    simp only [Bool.and_eq_true, decide_eq_true_eq] at e
    obtain ⟨⟨a1, a2⟩, ⟨a3, a4⟩, ⟨a5, a6⟩, ⟨a7, a8⟩, a9, a10⟩ := e
    refine y_asg (fun Q' q' => x_call (x_cons (x_v 0) x_nil) ⟨p, w, m, kf, r, o, rfl, hp, ⟨by omega, a8⟩, q'⟩) ?_
    have ev1 : EtX (tTest (tOp rEq (tVar 1) (tC (V.int 1)))) [some (.ref p), some (.int (missB w m kf r))] H (decide (missB w m kf r = 1)) := x_test (x_eqI (x_v 1) x_c)
    have ev2 : EtX (tTest (tOp rEq (tVar 1) (tC (V.int 2)))) [some (.ref p), some (.int (missB w m kf r))] H (decide (missB w m kf r = 2)) := x_test (x_eqI (x_v 1) x_c)
    unfold failRows at k
    have ew : ((w.toNat : Nat) : Int) = w := by omega
    have em : ((m.toNat : Nat) : Int) = m := by omega
    refine y_if ev1 (fun e => ?_) (fun e => ?_)
    · rw [if_pos (of_decide_eq_true e)] at k
      refine x_call (x_cons (x_ix (n := 0) (x_v 0) x_c hp rfl) (x_cons (x_ix (n := 1) (x_v 0) x_c hp rfl) x_nil)) ⟨w.toNat, m.toNat, by rw [ew, em]; rfl, ⟨by omega, by omega, by omega⟩, k⟩
    · rw [if_neg (of_decide_eq_false e)] at k
      dsimp only [tNext]
      refine y_if ev2 (fun e2 => ?_) (fun e2 => ?_)
      · rw [if_pos (of_decide_eq_true e2)] at k
        refine x_call (x_cons (x_ix (n := 0) (x_v 0) x_c hp rfl) (x_cons (x_ix (n := 1) (x_v 0) x_c hp rfl) x_nil)) ⟨w.toNat, m.toNat, by rw [ew, em]; rfl, ⟨by omega, by omega, by omega, by omega⟩, k⟩
      · rw [if_neg (of_decide_eq_false e2)] at k
        dsimp only [tNext]
        refine y_retl x_nil (by show 0 ≤ 1000; decide) fun q nq => k _ q [] (same_new nq) upd_same .nil
end
end W170

namespace W170
open PySem PySem.Spec PyProof.Rows L2
/-! ### a dict of the module whose keys are whole numbers and whose values are defs -/
def look (l : List (Int × Str)) (k : Int) : Option Str := (l.find? fun p => p.1 == k).map (·.2)
theorem ent_find {mg : Str → Option Value} : ∀ {es : List DictEntry} {l : List (Int × Str)}, EntOk mg es l → ∀ k, (look l k = none → (es.find? fun e => Value.isInt k e.key) = none) ∧ (∀ nm, look l k = some nm → ∃ e f, (es.find? fun e => Value.isInt k e.key) = some e ∧ e.val = .ref f ∧ mg nm = some (.ref f))
  | [], [], _, k => ⟨fun _ => rfl, fun nm h => (by cases h)⟩
  | [], _ :: _, h, _ => h.elim
  | _ :: _, [], h, _ => h.elim
  | e :: es, (k0, x) :: l, h, k => by
    obtain ⟨⟨t, hk⟩, _, ⟨f, hv, hm⟩, hr⟩ := h
    have ih := ent_find hr k
    have ek : Value.isInt k e.key = (k0 == k) := by
      rw [hk]
      rfl
    unfold look at ih ⊢
    rw [List.find?_cons, List.find?_cons, ek]
    cases z : (k0 == k) with
    | true => exact ⟨fun h => (by cases h), fun nm h => (by
        have e1 : x = nm := Option.some.inj h
        subst e1
        exact ⟨e, f, rfl, hv, hm⟩)⟩
    | false => exact ih
theorem ent_keys {prog : Program} {w : World} {mg : Str → Option Value} : ∀ {es : List DictEntry} {l : List (Int × Str)}, EntOk mg es l → ∀ e ∈ es, ∃ k, (intKind prog w).is k e.key = true ∧ e.hash = (intKind prog w).hash k
  | [], [], _, e, h => by cases h
  | [], _ :: _, h, _, _ => h.elim
  | _ :: _, [], h, _, _ => h.elim
  | e0 :: es, (k0, x) :: l, h, e, he => by
    obtain ⟨⟨t, hk⟩, hh, _, hr⟩ := h
    cases he with
    | head =>
      refine ⟨k0, ?_, hh⟩
      rw [hk]
      exact intKind_is prog w k0 t
    | tail _ q => exact ent_keys hr e q
/-- the dict stands so in the written part -/
def GD (K : PySem.W.Frag) (mg : Str → Option Value) (a : Addr) (l : List (Int × Str)) : Prop := ∃ (es : Array DictEntry) (n : Nat), K.lookup a = some ⟨.type "dict", none, .dict es n, #[]⟩ ∧ (a == sysModules) = false ∧ EntOk mg es.toList l
theorem gd_map {prog : Program} {w : World} {K : PySem.W.Frag} {mg : Str → Option Value} {a : Addr} {l : List (Int × Str)} {h : Heap} (X : K.In h) {es : Array DictEntry} {n : Nat} (hl : K.lookup a = some ⟨.type "dict", none, .dict es n, #[]⟩) (e : EntOk mg es.toList l) : h.MapOf (intKind prog w) a (fun k => findBy Value.isInt es k) :=
  ⟨_, es, n, X _ _ hl, ⟨rfl, rfl, rfl⟩, rfl, fun d hd => ent_keys e d (Array.mem_toList_iff.mpr hd), fun _ => rfl⟩
theorem find_arr (es : Array DictEntry) (k : Int) : findBy Value.isInt es k = (es.toList.find? fun e => Value.isInt k e.key).map (·.val) := by
  obtain ⟨l⟩ := es
  unfold findBy
  rw [List.find?_toArray]
section
variable {X : Cx} {l : List (Int × Str)}
theorem op_gin : OpR X (compareOp .In) (fun x y H Q => ∃ (a : Addr) (l : List (Int × Str)) (k : Int), x = .int k ∧ y = .ref a ∧ GD X.K X.mg a l ∧ Q (.bl (look l k).isSome) H) := by
  intro pins s σ H x y v u Q I rx ry h
  obtain ⟨a, l, k, rfl, rfl, ⟨es, n, hl, lo, e⟩, q⟩ := h
  obtain ⟨t, rfl⟩ := rx
  cases ry
  refine wpAny_in_of (intKind_is X.prog X.w k t) lo (gd_map (prog := X.prog) (w := X.w) I.kIn hl e) ?_
  have E := ent_find e k
  have ei : (findBy Value.isInt es k).isSome = (look l k).isSome := by
    rw [find_arr]
    cases z : look l k with
    | none =>
      rw [E.1 z]
      rfl
    | some nm =>
      obtain ⟨d, f, h1, _⟩ := E.2 nm z
      rw [h1]
      rfl
  rw [ei]
  exact ⟨.bl (look l k).isSome, H, I.tok _, rfl, q⟩
theorem ix_gd : IxR X (fun x y H Q => ∃ (a : Addr) (l : List (Int × Str)) (k : Int) (nm : Str), x = .ref a ∧ y = .int k ∧ GD X.K X.mg a l ∧ look l k = some nm ∧ ∀ f, X.mg nm = some (.ref f) → Q (.ref f) H) := by
  intro value slice pins s σ H x y v u Q I rx ry h hs
  obtain ⟨a, l, k, nm, rfl, rfl, ⟨es, n, hl, lo, e⟩, hk, q⟩ := h
  obtain rfl : v = Value.ref a := rx
  obtain ⟨t, rfl⟩ := ry
  have hm := gd_map (prog := X.prog) (w := X.w) I.kIn hl e
  obtain ⟨d, f, h1, h2, h3⟩ := (ent_find e k).2 nm hk
  have hf : findBy Value.isInt es k = some (.ref f) := by
    rw [find_arr, h1]
    show some d.val = some (Value.ref f)
    rw [h2]
  exact tail_any hm.typeIs slot_dict_getitem.lookup (wpAny_getItem_of (intKind_is X.prog X.w k t) hm hf ⟨.ref f, H, I.tok _, rfl, q f h3⟩) hs
/-- a local that holds a def of the module, called: the def's name and its promise are told in the reading -/
def tCallN (mg : Str → Option Value) (i : Nat) (W : Str → Sp → Prop) (t : TA) : TE := fun σ H Q => ∃ f nm sp, σ[i]? = some (some (.ref f)) ∧ mg nm = some (.ref f) ∧ W nm sp ∧ t σ H fun vs H1 => sp vs H1 Q (fun _ _ _ => False)
theorem pe_callN {i j : Nat} {x : Str} {p pos : Pos} {e : Expr} {es : List Expr} {t : TA} {W : Str → Sp → Prop} (A : ∀ nm sp, W nm sp → ∃ k, k ≤ j ∧ C8.Cal X.prog X.w X.K X.mg X.base k nm sp []) (hr : Room j X.A) (hN : X.N[i]? = some x) (hv : Vis X.env.scope x) (ha : PA X (e :: es) t)
    (hdb : (x == ("__debug__" : Str)) = false := by decide) (hcd : (x == ("__classdict__" : Str)) = false := by decide)
    (he : starEach (e :: es) X.env = (false, eval e X.env) :: starEach es X.env := by rfl) (hpl : (backTo pos (starEach es X.env)).any (·.1) = false := by rfl) : PE X (.Call (.Name x p) (e :: es) [] pos) (tCallN X.mg i W t) := by
  refine ⟨fun pins s σ H Q I h => ?_⟩
  obtain ⟨f, nm, sp, hs, hm, hW, ht⟩ := h
  obtain ⟨k, hk, cal⟩ := A nm sp hW
  obtain ⟨f', fd, ps, ds, F, hm', kp, b, d⟩ := cal.ex
  rw [hm] at hm'
  have ef : f = f' := by
    have := Option.some.inj hm'
    cases this
    rfl
  subst ef
  cases d
  refine (pe_callL (i := i) (f := f) (sp := sp) (dvs := []) (E := fun _ _ _ => False) F (hr.mono hk) hN hv kp b .nil (fun _ _ _ _ _ _ _ z => z.elim) ha hdb hcd he hpl).run pins s σ H Q I ⟨hs, ?_⟩
  have e0 : (fun (vs : List V) (H1 : Hp) => sp (vs ++ []) H1 Q (fun _ _ _ => False)) = fun vs H1 => sp vs H1 Q (fun _ _ _ => False) := by
    funext vs H1
    rw [List.append_nil]
  show t σ H (fun vs H1 => sp (vs ++ []) H1 Q (fun _ _ _ => False))
  rw [e0]
  exact ht
end
/-! ### all links -/
def LksAt (C : Cs) (g : Gh) (H : Hp) (L : Addr) (as : List Addr) (ms : List Lk) (b : Nat) : Prop := At g H (0, 8, 0) L (.lst (as.map V.ref)) ∧ as.length = ms.length ∧ ∀ i a m, as[i]? = some a → ms[i]? = some m → LkAt C g H i a m b
/-- what the calls may change -/
def Any4 : Role → Prop := fun r => r.2.1 ≤ 8 ∧ r ≠ (0, 8, 1)
theorem ls_any {i : Nat} : ∀ r, LS i r → Any4 r := fun r z => ⟨by have := z.2; omega, fun h => by
  have := z.2
  rw [h] at this
  exact absurd this (by decide)⟩
def nLink (ms : List Lk) (xs : List Int) : List Lk × List Int := if rangeB (xs.getD 0 0) (xs.getD 1 0) (xs.getD 2 0) (xs.getD 3 0) (xs.getD 4 0) = false then (ms, [-1]) else if 4 ≤ ms.length then (ms, [-8]) else
  let m := newLk (xs.getD 0 0).toNat (xs.getD 1 0).toNat (xs.getD 2 0).toNat (xs.getD 3 0).toNat (decide (xs.getD 4 0 = 1))
  (ms ++ [m], [(ms.length : Int), if m.safe = true then 1 else 0])
theorem nLink_five (ms : List Lk) (x m k r o : Int) : nLink ms [x, m, k, r, o] = if rangeB x m k r o = false then (ms, [-1]) else if 4 ≤ ms.length then (ms, [-8]) else
  (ms ++ [newLk x.toNat m.toNat k.toNat r.toNat (decide (o = 1))], [(ms.length : Int), if (newLk x.toNat m.toNat k.toNat r.toNat (decide (o = 1))).safe = true then 1 else 0]) := rfl
/-- what a call over all links promises -/
def SpSes (K : PySem.W.Frag) (C : Cs) (f : List Lk → List Int → List Lk × List Int) (n : Nat) : Sp := fun vs H Q _ => ∃ (g : Gh) (L l : Addr) (as : List Addr) (ms : List Lk) (b : Nat) (xs : List Int), vs = [.ref L, .ref l] ∧ LksAt C g H L as ms b ∧ ms.length ≤ 4 ∧ (∀ m ∈ ms, LkAll m b) ∧ b ≤ 8000000 ∧ xs.length = n ∧ SqL K H l (xs.map V.int) ∧ g l = imm ∧ (f ms xs).2.length ≤ 10000000 ∧
  ∀ g' H' p as', Mv Any4 g H g' H' → H p = none → LksAt C g' H' L as' (f ms xs).1 (b + 50000) → H' p = some (.lst ((f ms xs).2.map V.int)) → Q (.ref p) H'
theorem LksAt.same {C : Cs} {g : Gh} {H H' : Hp} {L : Addr} {as : List Addr} {ms : List Lk} {b : Nat} (h : LksAt C g H L as ms b) (s : Same H H') : LksAt C g H' L as ms b := ⟨h.1.same s, h.2.1, fun i a m h1 h2 => (h.2.2 i a m h1 h2).same s⟩
theorem LksAt.more {C : Cs} {g : Gh} {H : Hp} {L : Addr} {as : List Addr} {ms : List Lk} {b b' : Nat} (h : LksAt C g H L as ms b) (l : b ≤ b') : LksAt C g H L as ms b' := ⟨h.1, h.2.1, fun i a m h1 h2 => (h.2.2 i a m h1 h2).more l⟩
section
variable {P : Program} {w : World} {K : PySem.W.Frag} {mg : Str → Option Value} {base : Heap} {C : Cs}
theorem c_new_link (T : Txt K mg C) : C8.Cal P w K mg base 5 "new_link" (SpSes K C nLink 5) [] := by
  have cR : C8.Cal P w K mg base 1 "are_in_range" (spRange K) [] := c_are_in_range T
  have cL : C8.Mak P w K mg base 3 "Link" C.Link (spLkInit C) [] := k_Link T
  have cl := T.k_Link.cl
  refine df_g T.g_new_link sc_new_link (fun vs H Q E h => ?_) (fun f cdv A outer s H vs Q E hr h => ?_)
  · obtain ⟨_, _, _, _, _, _, _, rfl, _⟩ := h
    rfl
  · obtain ⟨g, L, l, as, ms, b, xs, rfl, hL, h4, oks, hb, hx, hl, gl, hres, k⟩ := h
    refine ⟨_, pss_cons (ps_if (pt_not (pt_val (C8.pe_c cR hr (by decide) (by rfl) (pa_cons (pv 1) pa_nil)))) (pss_one (ps_ret (pe_lst (pa_cons (pe_gi T.n_OUT_OF_RANGE) pa_nil)))) pss_nil)
      (pss_cons (ps_if (pt_cmpR op_ge (pe_ln T.b_len (pv 0)) (pe_gi T.n_LINK_LIMIT) (nomark _)) (pss_one (ps_ret (pe_lst (pa_cons (pe_gi T.n_FULL) pa_nil)))) pss_nil)
      (pss_cons (ps_set (i := 2) sc_new_link.nd rfl (.inl rfl) (C8.pe_mk cL hr (by decide) (by rfl) (pa_cons (pe_ix ix_list (pv 1) pe_int (fun _ _ => rfl)) (pa_cons (pe_ix ix_list (pv 1) pe_int (fun _ _ => rfl)) (pa_cons (pe_ix ix_list (pv 1) pe_int (fun _ _ => rfl)) (pa_cons (pe_ix ix_list (pv 1) pe_int (fun _ _ => rfl)) (pa_cons (pe_ix ix_list (pv 1) pe_int (fun _ _ => rfl)) pa_nil)))))))
      (pss_cons (ps_expr (pe_bm PySem.F.plainAttrs_list PySem.F.slot_list_append PySem.F.type_list_append mt_append (pv 0) (pa_cons (pv 2) pa_nil)))
      (pss_one (ps_ret (pe_lst (pa_cons (pe_op op_sub (pe_ln T.b_len (pv 0)) pe_int) (pa_cons (pe_ifExp (pt_val (pe_fld (pv 2) rfl)) pe_int pe_int) pa_nil)))))))), ?_⟩
    obtain ⟨x, m, kf, r, o, rfl⟩ : ∃ x m k r o, xs = [x, m, k, r, o] := by
      match xs, hx with
      | [x, m, k, r, o], _ => exact ⟨x, m, k, r, o, rfl⟩
    have ev : EtX (tNot (tB (tCall (spRange K) [] C8.E0 (tCons (tVar 1) tNil)))) (L2.start ["links", "arguments", "link"] [V.ref L, V.ref l]) H (!(rangeB x m kf r o)) :=
      x_not (x_B fun Q' q' => x_call (x_cons (x_v 1) x_nil) ⟨l, x, m, kf, r, o, rfl, hl, q'⟩)
    have hLl := hL.1
    refine y_if ev (fun e => ?_) (fun e => ?_)
    · rw [Bool.not_eq_true'] at e
      have ef : nLink ms [x, m, kf, r, o] = (ms, [-1]) := if_pos e
      refine y_retl (x_cons x_c x_nil) (by show 1 ≤ 1000; decide) fun p np => k g _ p as (Mv.new' np) np ?_ ?_
      · rw [ef]
        exact (hL.same (same_new np)).more (by omega)
      · rw [ef, upd_same]
        rfl
    · rw [Bool.not_eq_false'] at e
      have ne : ¬ rangeB x m kf r o = false := by rw [e]; exact fun h => Bool.noConfusion h
      dsimp only [tNext]
      have eL : EvX (tCB (rLn K) (tCons (tVar 0) tNil)) [some (V.ref L), some (V.ref l), none] H (.int (as.map V.ref).length) := x_len (x_v 0) (.of hLl.2)
      rw [List.length_map, hL.2.1] at eL
      refine y_if (x_test (x_i0 eL x_c)) (fun e2 => ?_) (fun e2 => ?_)
      · have e3 := of_decide_eq_true e2
        have ef : nLink ms [x, m, kf, r, o] = (ms, [-8]) := by
          rw [nLink_five, if_neg ne, if_pos (by omega)]
        refine y_retl (x_cons x_c x_nil) (by show 1 ≤ 1000; decide) fun p np => k g _ p as (Mv.new' np) np ?_ ?_
        · rw [ef]
          exact (hL.same (same_new np)).more (by omega)
        · rw [ef, upd_same]
          rfl
      · have e3 := of_decide_eq_false e2
        have ef : nLink ms [x, m, kf, r, o] = (ms ++ [newLk x.toNat m.toNat kf.toNat r.toNat (decide (o = 1))], [(ms.length : Int), if (newLk x.toNat m.toNat kf.toNat r.toNat (decide (o = 1))).safe = true then 1 else 0]) := by
          rw [nLink_five, if_neg ne, if_neg (by omega)]
        unfold rangeB at e
        simp only [Bool.and_eq_true, decide_eq_true_eq] at e
        obtain ⟨⟨a1, a2⟩, ⟨a3, a4⟩, ⟨a5, a6⟩, ⟨a7, a8⟩, a9, a10⟩ := e
        dsimp only [tSeq, tNext, tAsg]
        refine x_make (x_cons (x_ix (n := 0) (x_v 1) x_c hl rfl) (x_cons (x_ix (n := 1) (x_v 1) x_c hl rfl) (x_cons (x_ix (n := 2) (x_v 1) x_c hl rfl) (x_cons (x_ix (n := 3) (x_v 1) x_c hl rfl) (x_cons (x_ix (n := 4) (x_v 1) x_c hl rfl) x_nil))))) fun q dq nq ndq nqd => ?_
        have sm1 : Same H (upd (upd H dq (.own q)) q (.ins C.Link dq [])) := Same.made nq ndq fun b o h _ => h
        have m1 : ∀ {S : Role → Prop}, Mv S g H (tagAt g q (ms.length, 0, 0)) (upd (upd H dq (.own q)) q (.ins C.Link dq [])) := Mv.sameTag sm1 nq _
        refine ⟨tagAt g q (ms.length, 0, 0), ms.length, q, dq, x.toNat, m.toNat, kf.toNat, r.toNat, o, ?_, upd_same, tag_same, by omega, fun g2 H2 m2 hq2 => ⟨rfl, ?_⟩⟩
        · rw [show ((x.toNat : Nat) : Int) = x by omega, show ((m.toNat : Nat) : Int) = m by omega, show ((kf.toNat : Nat) : Int) = kf by omega, show ((r.toNat : Nat) : Int) = r by omega]
          rfl
        have hLl2 : At g2 H2 (0, 8, 0) L (.lst (as.map V.ref)) := (hLl.mv (S := fun _ => False) m1 (fun z => z)).mv m2 (fun z => by cases congrArg (fun r : Role => r.2.1) z)
        have old2 : ∀ i a m', as[i]? = some a → ms[i]? = some m' → LkAt C g2 H2 i a m' b := fun i a m' h1 h2 => by
          have lt : i < ms.length := (List.getElem?_eq_some_iff.mp h2).1
          refine ((hL.2.2 i a m' h1 h2).mv (S := fun _ => False) m1 (fun _ _ _ z => z) (fun z => z)).mv m2 (fun j n hj z => ?_) (fun z => by cases congrArg (fun r : Role => r.2.1) z)
          have := congrArg (fun r : Role => r.1) z
          exact absurd this (Nat.ne_of_lt lt)
        refine y_app (x_v 0) hLl2.2 ?_
        refine ⟨_, rfl, L, _, _, rfl, rfl, hLl2.2, ?_, ?_⟩
        · rw [List.length_map, hL.2.1]
          exact Nat.lt_of_le_of_lt (by omega : ms.length ≤ 1000) (by decide)
        have m3 : Mv (fun r => r = (0, 8, 0)) g2 H2 g2 (upd H2 L (.lst (as.map V.ref ++ [.ref q]))) := Mv.set hLl2.2 hLl2.1
        have hq3 := hq2.mv m3 (fun j n hj z => by
            have h2 : j = 8 := congrArg (fun r : Role => r.2.1) z
            omega) (fun z => by cases congrArg (fun r : Role => r.2.1) z)
        have hq30 := hq3
        obtain ⟨dx3, fa, ca, sa, ra, aA, _⟩ := hq30
        have all3 : LksAt C g2 (upd H2 L (.lst (as.map V.ref ++ [.ref q]))) L (as ++ [q]) (ms ++ [newLk x.toNat m.toNat kf.toNat r.toNat (decide (o = 1))]) (b + 50000) := by
          refine ⟨⟨hLl2.1, ?_⟩, ?_, fun i a m' h1 h2 => ?_⟩
          · rw [upd_same, List.map_append]
            rfl
          · rw [List.length_append, List.length_append, hL.2.1]
            rfl
          · rcases Nat.lt_or_ge i ms.length with lt | ge
            · rw [List.getElem?_append_left (by rw [hL.2.1]; exact lt)] at h1
              rw [List.getElem?_append_left lt] at h2
              exact ((old2 i a m' h1 h2).mv m3 (fun j n hj z => by
            have h2 : j = 8 := congrArg (fun r : Role => r.2.1) z
            omega) (fun z => by cases congrArg (fun r : Role => r.2.1) z)).more (by omega)
            · have ei : i = ms.length := by
                have := (List.getElem?_eq_some_iff.mp h2).1
                rw [List.length_append] at this
                have e1 : [newLk x.toNat m.toNat kf.toNat r.toNat (decide (o = 1))].length = 1 := rfl
                omega
              subst ei
              rw [List.getElem?_append_right (by rw [hL.2.1]; exact Nat.le_refl _), hL.2.1, Nat.sub_self] at h1
              rw [List.getElem?_append_right (Nat.le_refl _), Nat.sub_self] at h2
              have e1 := Option.some.inj h1
              have e2 := Option.some.inj h2
              rw [← e1, ← e2]
              exact hq3.more (by omega)
        have eN : EvX (tOp (rI0 fun i j => V.int (i - j)) (tCB (rLn K) (tCons (tVar 0) tNil)) (tC (V.int 1))) [some (V.ref L), some (V.ref l), some (.ref q)] (upd H2 L (.lst (as.map V.ref ++ [.ref q]))) (.int (((as.map V.ref ++ [V.ref q]).length : Int) - 1)) := x_i0 (x_len (x_v 0) (.of upd_same)) x_c
        have en : (((as.map V.ref ++ [V.ref q]).length : Int) - 1) = (ms.length : Int) := by
          rw [List.length_append, List.length_map, hL.2.1]
          show ((ms.length + 1 : Nat) : Int) - 1 = _
          omega
        rw [en] at eN
        have eS : EvX (tIf (tB (tFld K (tVar 2) "safe")) (tC (V.int 1)) (tC (V.int 0))) [some (V.ref L), some (V.ref l), some (.ref q)] (upd H2 L (.lst (as.map V.ref ++ [.ref q]))) (.int (if (newLk x.toNat m.toNat kf.toNat r.toNat (decide (o = 1))).safe = true then 1 else 0)) := by
          refine x_if (x_B (x_fld (x_v 2) aA.2 cl (no_Link_safe T) lk_Link_safe)) (fun h => ?_) (fun h => ?_)
          · rw [if_pos h]
            exact x_c
          · rw [h, if_neg Bool.false_ne_true]
            exact x_c
        refine y_retl (x_cons eN (x_cons eS x_nil)) (by show 2 ≤ 1000; decide) fun p np => ?_
        have mvA : Mv Any4 g H g2 (upd H2 L (.lst (as.map V.ref ++ [.ref q]))) := m1.trans ((m2.mono fun r z => by rw [z]; exact ⟨by show 0 ≤ 8; decide, fun h => by cases congrArg (fun r : Role => r.2.1) h⟩).trans (m3.mono fun r z => by rw [z]; exact ⟨by show 8 ≤ 8; decide, fun h => by cases congrArg (fun r : Role => r.2.2) h⟩))
        refine k g2 _ p (as ++ [q]) (mvA.trans (Mv.new' np)) (mvA.free np) ?_ ?_
        · rw [ef]
          exact all3.same (same_new np)
        · rw [ef, upd_same]
          rfl
end
end W170

namespace W170
open PySem PySem.Spec PyProof.Rows L2
theorem natI_app (a b : List Nat) : natI (a ++ b) = natI a ++ natI b := List.map_append ..
theorem flat_bnd {α β : Type} (f : α → List β) (c : Nat) : ∀ (l : List α) (n : Nat), (∀ x ∈ l, (f x).length ≤ c) → ((l.take n).flatMap f).length ≤ c * l.length
  | [], n, _ => by simp
  | a :: l, 0, _ => by simp
  | a :: l, n + 1, h => by
    have ih := flat_bnd f c l n fun x hx => h x (.tail _ hx)
    have ha := h a (.head _)
    rw [List.take_succ_cons, List.flatMap_cons, List.length_append, List.length_cons, Nat.mul_succ]
    omega
theorem flat_step {α β : Type} (f : α → List β) (l : List α) (i : Nat) (x : α) (h : l[i]? = some x) : (l.take (i + 1)).flatMap f = (l.take i).flatMap f ++ f x := by
  rw [List.take_add_one, h, List.flatMap_append]
  show (l.take i).flatMap f ++ [x].flatMap f = _
  rw [List.flatMap_singleton]
section
variable {P : Program} {w : World} {K : PySem.W.Frag} {mg : Str → Option Value} {base : Heap} {C : Cs}
theorem x_methA {σ : L2.St} {H : Hp} {ta : TE} {sp : Sp} {dvs : List V} {E : XK} {t : TA} {Q : VK} {p Cl dx : Addr} {m : Str} {fs : List (Str × V)} (ho : EvX ta σ H (.ref p)) (e : H p = some (.ins Cl dx fs)) (l : fs.lookup m = none) (h : t σ H fun vs H2 => sp (.ref p :: (vs ++ dvs)) H2 Q E) : tMeth Cl m sp dvs E ta t σ H Q := ho _ ⟨p, dx, fs, rfl, e, l, h⟩
theorem y_extM {D : Ends} {σ : L2.St} {H : Hp} {ta te : TE} {o : Addr} {xs : List V} (hO : H o = some (.lst xs)) (ha : EvX ta σ H (.ref o)) (h : te σ H fun y H1 => rExtend (.ref o) [y] H1 fun _ H2 => D.nx σ H2) : tDrop (tBM K "list" rExtend ta (tCons te tNil)) D σ H := ha _ ⟨.inl ⟨rfl, _, SqL.of hO⟩, h⟩
/-- xs.extend([..]) -/
theorem y_extL {D : Ends} {σ : L2.St} {H : Hp} {ta : TE} {targs : TA} {o : Addr} {xs vs : List V} (hO : H o = some (.lst xs)) (ha : EvX ta σ H (.ref o)) (hargs : EaX targs σ H vs) (hn : vs.length ≤ 1000) (hl : xs.length + vs.length ≤ 10000000)
    (q : ∀ p, H p = none → D.nx σ (upd (upd H p (.lst vs)) o (.lst (xs ++ vs)))) : tDrop (tBM K "list" rExtend ta (tCons (tLst targs) tNil)) D σ H :=
  ha _ ⟨.inl ⟨rfl, _, SqL.of hO⟩, hargs _ ⟨Nat.le_trans hn (by decide), fun p np => ⟨o, p, _, _, rfl, rfl, (upd_ne (ne_of_none hO np)).trans hO, upd_same, Nat.le_trans hl (by decide), q p np⟩⟩⟩
/-- xs.extend(link.sender.times_of(link.f())) -/
theorem y_times (T : Txt K mg C) {f : Lk → List Nat} {nm : Str} (hnm : ∀ v0 v1 v2 v3 v4 : V, (F_Link v0 v1 v2 v3 v4).lookup nm = none) (hlen : ∀ m : Lk, (f m).length ≤ m.sn.items.length) (hlt : ∀ m : Lk, ∀ n ∈ f m, n < m.sn.items.length)
    {σ : L2.St} {H : Hp} {D : Ends} {i j k : Nat} {o a : Addr} {g : Gh} {m : Lk} {b : Nat} {ts : List Nat} (hi : σ[i]? = some (some (.ref o))) (hj : σ[j]? = some (some (.ref a))) (hL : LkAt C g H k a m b) (ok : LkAll m b) (hO : H o = some (.lst ((natI ts).map V.int))) (hts : ts.length ≤ 1000)
    (q : ∀ H2, Same H H2 → D.nx σ (upd H2 o (.lst ((natI (ts ++ m.times (f m))).map V.int)))) :
    tDrop (tBM K "list" rExtend (tVar i) (tCons (tMeth C.Sender "times_of" (spTimes C) [] C8.E0 (tFld K (tVar j) "sender") (tCons (tMeth C.Link nm (spTr C f) [] C8.E0 (tVar j) tNil) tNil)) tNil)) D σ H := by
  have cl := T.k_Link.cl
  have hL0 := hL
  obtain ⟨dx, fa, ca, sa, ra, aA, hF, hA, hS, hR⟩ := hL0
  have hS0 := hS
  obtain ⟨dxs, l, da, dd, ps, ka, kd, sA, _⟩ := hS0
  have hfew := ok.sn.few
  have hl := hlen m
  refine y_extM hO (x_v i hi) ?_
  refine x_methA (x_fld (x_v j hj) aA.2 cl (no_Link_sender T) lk_Link_sender) sA.2 nm_Sender_times_of ?_
  refine x_meth (x_v j hj) aA.2 (hnm _ _ _ _ _) x_nil ⟨g, k, a, m, b, rfl, hL, ok.sn, fun H1 p s1 np hp => ?_⟩
  refine ⟨g, k, sa, fa, p, m.W, m.M, m.sn, b, f m, rfl, hS.mv (S := fun _ => False) (Mv.same s1) (fun _ z => z) (fun z => z), hp, by omega, hlt m, ok.its, fun H2 r s2 nr hr => ?_⟩
  have s12 := s1.trans s2
  have e : (natI ts).map V.int ++ (natI (m.sn.timesOf (f m))).map V.int = (natI (ts ++ m.times (f m))).map V.int := by
    rw [natI_app, List.map_append]
    rfl
  refine ⟨o, r, _, _, rfl, rfl, s12 _ _ hO, hr, ?_, ?_⟩
  · rw [List.length_map, List.length_map, natI_len, natI_len]
    have : (m.sn.timesOf (f m)).length = (f m).length := List.length_map ..
    exact Nat.le_trans (by omega : _ ≤ 2000) (by decide)
  · rw [e]
    exact q H2 s12
def allTimes (f : Lk → List Nat) (ms : List Lk) : List Nat := ms.flatMap fun m => m.times (f m)
theorem times_bnd {f : Lk → List Nat} (hlen : ∀ m : Lk, (f m).length ≤ m.sn.items.length) {ms : List Lk} {b : Nat} (ok : ∀ m ∈ ms, LkAll m b) (h4 : ms.length ≤ 4) (n : Nat) : (allTimes f (ms.take n)).length ≤ 480 := by
  have := flat_bnd (fun m : Lk => m.times (f m)) 120 ms n fun m hm => by
    have h1 := hlen m
    have h2 := (ok m hm).sn.few
    have h3 : (m.times (f m)).length = (f m).length := List.length_map ..
    omega
  have h : (allTimes f (ms.take n)).length ≤ 120 * ms.length := this
  omega
def spTT (C : Cs) (f : Lk → List Nat) : Sp := fun vs H Q _ => ∃ (g : Gh) (L : Addr) (as : List Addr) (ms : List Lk) (b : Nat), vs = [.ref L] ∧ LksAt C g H L as ms b ∧ ms.length ≤ 4 ∧ (∀ m ∈ ms, LkAll m b) ∧ ∀ H' p, Same H H' → H p = none → H' p = some (.lst ((natI (allTimes f ms)).map V.int)) → Q (.ref p) H'
theorem c_times_in_transit (T : Txt K mg C) : C8.Cal P w K mg base 3 "times_in_transit" (spTT C Lk.trans1) [] := by
  have cI : C8.Met P w K mg base 2 C.Link "in_transit" (spTr C Lk.trans1) [] := m_in_transit T
  have cS : C8.Met P w K mg base 2 C.Sender "times_of" (spTimes C) [] := m_times_of T
  refine df_g T.g_times_in_transit sc_times_in_transit (fun vs H Q E h => ?_) (fun f cdv A outer s H vs Q E hr h => ?_)
  · obtain ⟨_, _, _, _, _, rfl, _⟩ := h
    rfl
  · obtain ⟨g, L, as, ms, b, rfl, hL, h4, oks, k⟩ := h
    refine ⟨_, pss_cons (ps_set (i := 1) sc_times_in_transit.nd rfl (.inl rfl) (pe_lst pa_nil))
      (pss_cons (ps_for PassesOwn.never rfl (pi_list (pv 0)) (pg_name (i := 2) sc_times_in_transit.nd rfl (.inl rfl))
        (pss_one (ps_expr (pe_bm PySem.F.plainAttrs_list PySem.F.slot_list_extend PySem.F.type_list_extend mt_extend (pv 1) (pa_cons (C8.pe_mt cS hr (by decide) (pe_fld (pv 2) rfl) (pa_cons (C8.pe_mt0 cI hr (by decide) (pv 2)) pa_nil)) pa_nil)))))
      (pss_one (ps_ret (pv 1)))), ?_⟩
    refine y_asgl x_nil (by show 0 ≤ 1000; decide) fun o no => ?_
    have s1 : Same H (upd H o (.lst [])) := same_new no
    refine ⟨_, rfl, L, rfl, ⟨_, .of (s1 _ _ hL.1.2)⟩, for_list (K := K) (a := L) (xs := as.map V.ref)
      (fun n σ H' => (∃ y, σ = [some (.ref L), some (.ref o), y]) ∧ Same H H' ∧ H' o = some (.lst ((natI (allTimes Lk.trans1 (ms.take n))).map V.int)))
      ⟨⟨_, rfl⟩, s1, upd_same⟩ (fun n σ H' _ h => .of (h.2.1 _ _ hL.1.2)) ?_ ?_⟩
    · rintro n y σ H' hy ⟨⟨y2, rfl⟩, sm, hO⟩
      obtain ⟨a, ha, rfl⟩ := map_get hy
      have hlt : n < ms.length := by
        rw [← hL.2.1]
        exact (List.getElem?_eq_some_iff.mp ha).1
      have hm : ms[n]? = some ms[n] := List.getElem?_eq_getElem hlt
      have okm := oks _ (List.getElem_mem hlt)
      generalize ms[n] = m at hm okm
      have bn := times_bnd trans1_len oks h4 n
      refine y_times T (fun _ _ _ _ _ => nm_Link_in_transit) trans1_len (fun _ => trans1_lt) rfl rfl ((hL.2.2 n a m ha hm).same sm) okm hO (by omega) fun H2 s2 => ⟨⟨_, rfl⟩, same_upd (sm.trans s2) no, ?_⟩
      rw [upd_same]
      unfold allTimes
      rw [flat_step (fun m : Lk => m.times m.trans1) ms n m hm]
    · rintro σ H' ⟨⟨y2, rfl⟩, sm, hO⟩
      dsimp only
      refine y_ret (x_v 1) (k H' o sm no ?_)
      rw [hO, List.length_map, hL.2.1, List.take_length]
theorem c_minimum_times (T : Txt K mg C) : C8.Cal P w K mg base 4 "minimum_times" (SpSes K C (fun ms _ => (ms, mMinTimes ms)) 0) [] := by
  have cI : C8.Met P w K mg base 2 C.Link "known_in_transit" (spTr C Lk.trans2) [] := m_known T
  have cS : C8.Met P w K mg base 2 C.Sender "times_of" (spTimes C) [] := m_times_of T
  have cX : C8.Cal P w K mg base 3 "times_in_transit" (spTT C Lk.trans1) [] := c_times_in_transit T
  have cM : C8.Cal P w K mg base 1 "told_minimum" (spToldMin K) [] := c_told_minimum T
  refine df_g T.g_minimum_times sc_minimum_times (fun vs H Q E h => ?_) (fun f cdv A outer s H vs Q E hr h => ?_)
  · obtain ⟨_, _, _, _, _, _, _, rfl, _⟩ := h
    rfl
  · obtain ⟨g, L, l, as, ms, b, xs, rfl, hL, h4, oks, hb, hx, hl, gl, hres, k⟩ := h
    refine ⟨_, pss_cons (ps_set (i := 2) sc_minimum_times.nd rfl (.inl rfl) (C8.pe_c cX hr (by decide) (by rfl) (pa_cons (pv 0) pa_nil)))
      (pss_cons (ps_set (i := 3) sc_minimum_times.nd rfl (.inl rfl) (pe_lst pa_nil))
      (pss_cons (ps_for PassesOwn.never rfl (pi_list (pv 0)) (pg_name (i := 4) sc_minimum_times.nd rfl (.inl rfl))
        (pss_one (ps_expr (pe_bm PySem.F.plainAttrs_list PySem.F.slot_list_extend PySem.F.type_list_extend mt_extend (pv 3) (pa_cons (C8.pe_mt cS hr (by decide) (pe_fld (pv 4) rfl) (pa_cons (C8.pe_mt0 cI hr (by decide) (pv 4)) pa_nil)) pa_nil)))))
      (pss_one (ps_ret (pe_op op_cat (C8.pe_c cM hr (by decide) (by rfl) (pa_cons (pv 2) pa_nil)) (C8.pe_c cM hr (by decide) (by rfl) (pa_cons (pv 3) pa_nil))))))), ?_⟩
    refine x_call (x_cons (x_v 0) x_nil) ⟨g, L, as, ms, b, rfl, hL, h4, oks, fun H1 p s1 np hp => ?_⟩
    refine y_asgl x_nil (by show 0 ≤ 1000; decide) fun o no => ?_
    have s2 : Same H (upd H1 o (.lst [])) := s1.trans (same_new no)
    have no0 : H o = none := s1.free no
    have npo : p ≠ o := ne_of_none hp no
    refine ⟨_, rfl, L, rfl, ⟨_, .of (s2 _ _ hL.1.2)⟩, for_list (K := K) (a := L) (xs := as.map V.ref)
      (fun n σ H' => (∃ y, σ = [some (.ref L), some (.ref l), some (.ref p), some (.ref o), y]) ∧ Same H H' ∧ H' p = some (.lst ((natI (allTimes Lk.trans1 ms)).map V.int)) ∧ H' o = some (.lst ((natI (allTimes Lk.trans2 (ms.take n))).map V.int)))
      ⟨⟨_, rfl⟩, s2, (upd_ne npo).trans hp, upd_same⟩ (fun n σ H' _ h => .of (h.2.1 _ _ hL.1.2)) ?_ ?_⟩
    · rintro n y σ H' hy ⟨⟨y2, rfl⟩, sm, hP, hO⟩
      obtain ⟨a, ha, rfl⟩ := map_get hy
      have hlt : n < ms.length := by
        rw [← hL.2.1]
        exact (List.getElem?_eq_some_iff.mp ha).1
      have hm : ms[n]? = some ms[n] := List.getElem?_eq_getElem hlt
      have okm := oks _ (List.getElem_mem hlt)
      generalize ms[n] = m at hm okm
      have bn := times_bnd trans2_len oks h4 n
      refine y_times T (fun _ _ _ _ _ => nm_Link_known_in_transit) trans2_len (fun _ => trans2_lt) rfl rfl ((hL.2.2 n a m ha hm).same sm) okm hO (by omega) fun H2 s3 => ⟨⟨_, rfl⟩, same_upd (sm.trans s3) no0, (upd_ne npo).trans (s3 _ _ hP), ?_⟩
      rw [upd_same]
      unfold allTimes
      rw [flat_step (fun m : Lk => m.times m.trans2) ms n m hm]
    · rintro σ H' ⟨⟨y2, rfl⟩, sm, hP, hO⟩
      rw [List.length_map, hL.2.1, List.take_length] at hO
      dsimp only
      refine x_call (x_cons (x_v 2) x_nil) ⟨p, _, rfl, hP, fun H2 q s3 nq hq => ?_⟩
      refine x_call (x_cons (x_v 3) x_nil) ⟨o, _, rfl, s3 _ _ hO, fun H3 r s4 nr hr3 => ?_⟩
      have ml : ∀ ts : List Nat, (minOf ts).length ≤ 2 := fun ts => by
        unfold minOf
        cases Vbtwad.minimumOf ts with
        | none => exact Nat.le_succ _
        | some x => exact Nat.le_refl _
      have m1 := ml (allTimes Lk.trans1 ms)
      have m2 := ml (allTimes Lk.trans2 ms)
      refine ⟨q, r, _, _, rfl, rfl, s4 _ _ hq, hr3, ?_, fun t nt => ?_⟩
      · rw [List.length_map, List.length_map]
        exact Nat.le_trans (by omega : _ ≤ 1000) (by decide)
      have s5 := sm.trans (s3.trans (s4.trans (same_new nt (o := .lst ((minOf (allTimes Lk.trans1 ms)).map V.int ++ (minOf (allTimes Lk.trans2 ms)).map V.int)))))
      refine k g _ t as (Mv.same s5) ((sm.trans (s3.trans s4)).free nt) ((hL.same s5).more (by omega)) ?_
      rw [upd_same, ← List.map_append]
      rfl
theorem c_check (T : Txt K mg C) : C8.Cal P w K mg base 2 "check_parameters" (SpSes K C (fun ms xs => (ms, mCheck (xs.getD 0 0) (xs.getD 1 0) (xs.getD 2 0) (xs.getD 3 0) (xs.getD 4 0))) 5) [] := by
  have cR : C8.Cal P w K mg base 1 "are_in_range" (spRange K) [] := c_are_in_range T
  have cV : C8.Cal P w K mg base 1 "violated_condition" (spMiss K) [] := c_violated T
  refine df_g T.g_check_parameters sc_check_parameters (fun vs H Q E h => ?_) (fun f cdv A outer s H vs Q E hr h => ?_)
  · obtain ⟨_, _, _, _, _, _, _, rfl, _⟩ := h
    rfl
  · obtain ⟨g, L, l, as, ms, b, xs, rfl, hL, h4, oks, hb, hx, hl, gl, hres, k⟩ := h
    refine ⟨_, pss_cons (ps_if (pt_not (pt_val (C8.pe_c cR hr (by decide) (by rfl) (pa_cons (pv 1) pa_nil)))) (pss_one (ps_ret (pe_lst (pa_cons (pe_gi T.n_OUT_OF_RANGE) pa_nil)))) pss_nil)
      (pss_cons (ps_set (i := 2) sc_check_parameters.nd rfl (.inl rfl) (C8.pe_c cV hr (by decide) (by rfl) (pa_cons (pv 1) pa_nil)))
      (pss_one (ps_ret (pe_lst (pa_cons (pe_ifExp (pt_cmpR op_eq (pv 2) (pe_gi T.n_NO_CONDITION) (nomark _)) pe_int pe_int) (pa_cons (pv 2) pa_nil)))))), ?_⟩
    obtain ⟨x, m, kf, r, o, rfl⟩ : ∃ x m k r o, xs = [x, m, k, r, o] := by
      match xs, hx with
      | [x, m, k, r, o], _ => exact ⟨x, m, k, r, o, rfl⟩
    have ev : EtX (tNot (tB (tCall (spRange K) [] C8.E0 (tCons (tVar 1) tNil)))) (L2.start ["links", "arguments", "condition"] [V.ref L, V.ref l]) H (!(rangeB x m kf r o)) :=
      x_not (x_B fun Q' q' => x_call (x_cons (x_v 1) x_nil) ⟨l, x, m, kf, r, o, rfl, hl, q'⟩)
    refine y_if ev (fun e => ?_) (fun e => ?_)
    · rw [Bool.not_eq_true'] at e
      have ef : mCheck x m kf r o = [-1] := if_pos e
      refine y_retl (x_cons x_c x_nil) (by show 1 ≤ 1000; decide) fun p np => k g _ p as (Mv.new' np) np ((hL.same (same_new np)).more (by omega)) ?_
      show _ = some (HO.lst ((mCheck x m kf r o).map V.int))
      rw [ef, upd_same]
      rfl
    · rw [Bool.not_eq_false'] at e
      have ef : mCheck x m kf r o = [if safeB x m kf r = true then 1 else 0, missB x m kf r] := if_neg (by rw [e]; exact fun h => Bool.noConfusion h)
      have er := e
      unfold rangeB at er
      simp only [Bool.and_eq_true, decide_eq_true_eq] at er
      obtain ⟨_, _, _, ⟨a7, a8⟩, _⟩ := er
      dsimp only [tNext]
      refine y_asg (fun Q' q' => x_call (x_cons (x_v 1) x_nil) ⟨l, x, m, kf, r, o, rfl, hl, ⟨by omega, a8⟩, q'⟩) ?_
      have ev2 : EvX (tIf (tTest (tOp rEq (tVar 2) (tC (V.int 0)))) (tC (V.int 1)) (tC (V.int 0))) [some (V.ref L), some (V.ref l), some (.int (missB x m kf r))] H (.int (if safeB x m kf r = true then 1 else 0)) := by
        refine x_if (x_test (x_eqI (x_v 2) x_c)) (fun h => ?_) (fun h => ?_)
        · rw [miss_safe] at h
          rw [if_pos h]
          exact x_c
        · rw [miss_safe] at h
          rw [h, if_neg Bool.false_ne_true]
          exact x_c
      refine y_retl (x_cons ev2 (x_cons (x_v 2) x_nil)) (by show 2 ≤ 1000; decide) fun p np => k g _ p as (Mv.new' np) np ((hL.same (same_new np)).more (by omega)) ?_
      show _ = some (HO.lst ((mCheck x m kf r o).map V.int))
      rw [ef, upd_same]
      rfl
def mFail (w m k r o : Int) : List Int := if rangeB w m k r o = false then [-1] else ((failRows w m k r).length : Int) :: (failRows w m k r).flatMap fun x => x
theorem c_find_failure (T : Txt K mg C) : C8.Cal P w K mg base 5 "find_failure" (SpSes K C (fun ms xs => (ms, mFail (xs.getD 0 0) (xs.getD 1 0) (xs.getD 2 0) (xs.getD 3 0) (xs.getD 4 0))) 5) [] := by
  have cR : C8.Cal P w K mg base 1 "are_in_range" (spRange K) [] := c_are_in_range T
  have cF : C8.Cal P w K mg base 4 "failure_steps" (spFail K) [] := c_failure_steps T
  refine df_g T.g_find_failure sc_find_failure (fun vs H Q E h => ?_) (fun f cdv A outer s H vs Q E hr h => ?_)
  · obtain ⟨_, _, _, _, _, _, _, rfl, _⟩ := h
    rfl
  · obtain ⟨g, L, l, as, ms, b, xs, rfl, hL, h4, oks, hb, hx, hl, gl, hres, k⟩ := h
    refine ⟨_, pss_cons (ps_if (pt_not (pt_val (C8.pe_c cR hr (by decide) (by rfl) (pa_cons (pv 1) pa_nil)))) (pss_one (ps_ret (pe_lst (pa_cons (pe_gi T.n_OUT_OF_RANGE) pa_nil)))) pss_nil)
      (pss_cons (ps_set (i := 2) sc_find_failure.nd rfl (.inl rfl) (C8.pe_c cF hr (by decide) (by rfl) (pa_cons (pv 1) pa_nil)))
      (pss_cons (ps_set (i := 3) sc_find_failure.nd rfl (.inl rfl) (pe_lst (pa_cons (pe_ln T.b_len (pv 2)) pa_nil)))
      (pss_cons (ps_for PassesOwn.never rfl (pi_list (pv 2)) (pg_name (i := 4) sc_find_failure.nd rfl (.inl rfl))
        (pss_one (ps_expr (pe_bm PySem.F.plainAttrs_list PySem.F.slot_list_extend PySem.F.type_list_extend mt_extend (pv 3) (pa_cons (pv 4) pa_nil)))))
      (pss_one (ps_ret (pv 3)))))), ?_⟩
    obtain ⟨x, m, kf, r, o, rfl⟩ : ∃ x m k r o, xs = [x, m, k, r, o] := by
      match xs, hx with
      | [x, m, k, r, o], _ => exact ⟨x, m, k, r, o, rfl⟩
    have ev : EtX (tNot (tB (tCall (spRange K) [] C8.E0 (tCons (tVar 1) tNil)))) (L2.start ["links", "arguments", "steps", "numbers", "step"] [V.ref L, V.ref l]) H (!(rangeB x m kf r o)) :=
      x_not (x_B fun Q' q' => x_call (x_cons (x_v 1) x_nil) ⟨l, x, m, kf, r, o, rfl, hl, q'⟩)
    refine y_if ev (fun e => ?_) (fun e => ?_)
    · rw [Bool.not_eq_true'] at e
      have ef : mFail x m kf r o = [-1] := if_pos e
      refine y_retl (x_cons x_c x_nil) (by show 1 ≤ 1000; decide) fun p np => k g _ p as (Mv.new' np) np ((hL.same (same_new np)).more (by omega)) ?_
      show _ = some (HO.lst ((mFail x m kf r o).map V.int))
      rw [ef, upd_same]
      rfl
    · rw [Bool.not_eq_false'] at e
      have ef : mFail x m kf r o = ((failRows x m kf r).length : Int) :: (failRows x m kf r).flatMap fun x => x := if_neg (by rw [e]; exact fun h => Bool.noConfusion h)
      have hres' : (mFail x m kf r o).length ≤ 10000000 := hres
      have k' : ∀ g' H' p as', Mv Any4 g H g' H' → H p = none → LksAt C g' H' L as' ms (b + 50000) → H' p = some (.lst ((mFail x m kf r o).map V.int)) → Q (.ref p) H' := k
      clear k hres
      rw [ef, List.length_cons] at hres'
      rw [ef] at k'
      dsimp only [tNext]
      refine x_call (x_cons (x_v 1) x_nil) ⟨l, x, m, kf, r, o, rfl, hl, e, fun H1 q bs s1 hq hb1 => ?_⟩
      generalize failRows x m kf r = fss at hb1 hres' k' ef
      have lb : bs.length = fss.length := Paired.length hb1
      have eN : EaX (tCons (tCB (rLn K) (tCons (tVar 2) tNil)) tNil) [some (.ref L), some (.ref l), some (.ref q), none, none] H1 [.int (bs.map V.ref).length] := x_cons (x_len (x_v 2) (.of hq)) x_nil
      rw [List.length_map, lb] at eN
      refine y_asgl eN (by show 1 ≤ 1000; decide) fun t nt => ?_
      have s2 : Same H1 (upd H1 t (.lst [.int fss.length])) := same_new nt
      refine ⟨_, rfl, q, rfl, ⟨_, .of (s2 _ _ hq)⟩, for_list (K := K) (a := q) (xs := bs.map V.ref)
        (fun n σ H' => (∃ y, σ = [some (.ref L), some (.ref l), some (.ref q), some (.ref t), y]) ∧ Same H1 H' ∧ H' t = some (.lst (((fss.length : Int) :: (fss.take n).flatMap fun x => x).map V.int)))
        ⟨⟨_, rfl⟩, s2, upd_same⟩ (fun n σ H' _ h => .of (h.2.1 _ _ hq)) ?_ ?_⟩
      · rintro n y σ H' hy ⟨⟨y2, rfl⟩, sm, hO⟩
        obtain ⟨a, ha, rfl⟩ := map_get hy
        obtain ⟨fs, hfs, pa⟩ := Paired.get hb1 ha
        have f2 := flat_le (fun x : List Int => x) fss (n + 1)
        rw [flat_snoc (fun x : List Int => x) fss n fs hfs, List.length_append] at f2
        refine ⟨_, rfl, .inl ⟨rfl, _, SqL.of hO⟩, _, rfl, t, a, _, _, rfl, rfl, hO, sm _ _ pa, ?_, ⟨_, rfl⟩, same_upd sm nt, ?_⟩
        · rw [List.length_map, List.length_map, List.length_cons]
          exact Nat.le_trans (by omega : _ ≤ 10000000) (by decide)
        · rw [upd_same, flat_snoc (fun x : List Int => x) fss n fs hfs, ← List.map_append]
          rfl
      · rintro σ H' ⟨⟨y2, rfl⟩, sm, hO⟩
        rw [List.length_map, lb, List.take_length] at hO
        dsimp only
        exact y_ret (x_v 3) (k' g H' t as (Mv.same (s1.trans sm)) (s1.free nt) ((hL.same (s1.trans sm)).more (by omega)) hO)
theorem c_get_counts (T : Txt K mg C) : C8.Cal P w K mg base 1 "get_counts" (SpSes K C (fun ms _ => (ms, mAllCounts ms)) 0) [] := by
  have cl := T.k_Link.cl
  have clS := T.k_Sender.cl
  have clR := T.k_Receiver.cl
  have clC := T.k_Channel.cl
  refine df_g T.g_get_counts sc_get_counts (fun vs H Q E h => ?_) (fun f cdv A outer s H vs Q E hr h => ?_)
  · obtain ⟨_, _, _, _, _, _, _, rfl, _⟩ := h
    rfl
  · obtain ⟨g, L, l, as, ms, b, xs, rfl, hL, h4, oks, hb, hx, hl, gl, hres, k⟩ := h
    refine ⟨_, pss_cons (ps_set (i := 2) sc_get_counts.nd rfl (.inl rfl) (pe_lst (pa_cons (pe_ln T.b_len (pv 0)) pa_nil)))
      (pss_cons (ps_for PassesOwn.never rfl (pi_list (pv 0)) (pg_name (i := 3) sc_get_counts.nd rfl (.inl rfl))
        (pss_cons (ps_expr (pe_bm PySem.F.plainAttrs_list PySem.F.slot_list_extend PySem.F.type_list_extend mt_extend (pv 2) (pa_cons (pe_lst (pa_cons (pe_ln T.b_len (pe_fld (pe_fld (pv 3) rfl) rfl)) (pa_cons (pe_ln T.b_len (pe_fld (pe_fld (pv 3) rfl) rfl)) pa_nil))) pa_nil)))
        (pss_cons (ps_expr (pe_bm PySem.F.plainAttrs_list PySem.F.slot_list_extend PySem.F.type_list_extend mt_extend (pv 2) (pa_cons (pe_lst (pa_cons (pe_ln T.b_len (pe_fld (pe_fld (pv 3) rfl) rfl)) (pa_cons (pe_ln T.b_len (pe_fld (pe_fld (pv 3) rfl) rfl)) pa_nil))) pa_nil)))
        (pss_one (ps_expr (pe_bm PySem.F.plainAttrs_list PySem.F.slot_list_extend PySem.F.type_list_extend mt_extend (pv 2) (pa_cons (pe_lst (pa_cons (pe_fld (pe_fld (pv 3) rfl) rfl) (pa_cons (pe_fld (pe_fld (pv 3) rfl) rfl) pa_nil))) pa_nil)))))))
      (pss_one (ps_ret (pv 2)))), ?_⟩
    have eN : EaX (tCons (tCB (rLn K) (tCons (tVar 0) tNil)) tNil) (L2.start ["links", "arguments", "numbers", "link"] [V.ref L, V.ref l]) H [.int (as.map V.ref).length] := x_cons (x_len (x_v 0) (.of hL.1.2)) x_nil
    rw [List.length_map, hL.2.1] at eN
    refine y_asgl eN (by show 1 ≤ 1000; decide) fun o no => ?_
    have s1 : Same H (upd H o (.lst [.int ms.length])) := same_new no
    refine ⟨_, rfl, L, rfl, ⟨_, .of (s1 _ _ hL.1.2)⟩, for_list (K := K) (a := L) (xs := as.map V.ref)
      (fun n σ H' => (∃ y, σ = [some (.ref L), some (.ref l), some (.ref o), y]) ∧ Same H H' ∧ H' o = some (.lst (((ms.length : Int) :: (ms.take n).flatMap mCounts).map V.int)))
      ⟨⟨_, rfl⟩, s1, upd_same⟩ (fun n σ H' _ h => .of (h.2.1 _ _ hL.1.2)) ?_ ?_⟩
    · rintro n y σ H' hy ⟨⟨y2, rfl⟩, sm, hO⟩
      obtain ⟨a, ha, rfl⟩ := map_get hy
      have hlt : n < ms.length := by
        rw [← hL.2.1]
        exact (List.getElem?_eq_some_iff.mp ha).1
      have hm : ms[n]? = some ms[n] := List.getElem?_eq_getElem hlt
      generalize ms[n] = m at hm
      have bn := flat_bnd mCounts 6 ms n fun _ _ => Nat.le_refl _
      obtain ⟨dx, fa, ca, sa, ra, aA0, hF, hA, hS, hR⟩ := hL.2.2 n a m ha hm
      obtain ⟨dxs, l1, da, dd, ps, ka, kd, sA0, sL0, sD, sE, sP, _⟩ := hS
      obtain ⟨dxr, d, lr, kvs, psr, rA0, rD, rL0, rk, rV, rP⟩ := hR
      obtain ⟨dxf, lf, qf, fA0, fL0, fP⟩ := hF
      obtain ⟨dxa, lac, qa, cA0, cL0, cP⟩ := hA
      have lfo : lf ≠ o := ne_of_none fL0.2 no
      have lao : lac ≠ o := ne_of_none cL0.2 no
      have aA := aA0.same sm
      have sA := sA0.same sm
      have sL := sL0.same sm
      have rA := rA0.same sm
      have rL := rL0.same sm
      have fA := fA0.same sm
      have fL := fL0.same sm
      have cA := cA0.same sm
      have cL := cL0.same sm
      have lS := Paired.length sP
      have lR := Paired.length rP
      have lF := Paired.length fP
      have lA := Paired.length cP
      have hlen0 : (((ms.length : Int) :: (ms.take n).flatMap mCounts).map V.int).length ≤ 100 := by
        rw [List.length_map, List.length_cons]
        omega
      generalize hX : ((ms.length : Int) :: (ms.take n).flatMap mCounts).map V.int = X at hO hlen0
      have e1 : EaX (tCons (tCB (rLn K) (tCons (tFld K (tFld K (tVar 3) "sender") "all_items") tNil)) (tCons (tCB (rLn K) (tCons (tFld K (tFld K (tVar 3) "receiver") "delivered") tNil)) tNil)) [some (.ref L), some (.ref l), some (.ref o), some (.ref a)] H' [.int (ps.map V.ref).length, .int (psr.map V.ref).length] :=
        x_cons (x_len (x_fld (x_fld (x_v 3) aA.2 cl (no_Link_sender T) lk_Link_sender) sA.2 clS (no_Sender_all_items T) lk_Sender_all_items) (.of sL.2)) (x_cons (x_len (x_fld (x_fld (x_v 3) aA.2 cl (no_Link_receiver T) lk_Link_receiver) rA.2 clR (no_Receiver_delivered T) lk_Receiver_delivered) (.of rL.2)) x_nil)
      rw [List.length_map, List.length_map, lS, lR] at e1
      refine y_extL hO (x_v 2) e1 (by show 2 ≤ 1000; decide) (by show _ + 2 ≤ 10000000; omega) fun p1 np1 => ?_
      generalize hH2 : upd (upd H' p1 (.lst [.int m.sn.items.length, .int m.rc.del.length])) o (.lst (X ++ [.int m.sn.items.length, .int m.rc.del.length])) = H2
      have hO2 : H2 o = some (.lst (X ++ [.int m.sn.items.length, .int m.rc.del.length])) := by
        rw [← hH2, upd_same]
      have sm2 : ∀ u v, H' u = some v → u ≠ o → H2 u = some v := fun u v h hu => by
        rw [← hH2, upd_ne hu, upd_ne (ne_of_none h np1)]
        exact h
      have smA : Same H H2 := by
        rw [← hH2]
        exact same_upd (fun u v h => (upd_ne (ne_of_none (sm _ _ h) np1)).trans (sm _ _ h)) no
      have aA2 := sm2 _ _ aA.2 (ne_of aA.2 hO (fun z => by cases z))
      have fA2 := sm2 _ _ fA.2 (ne_of fA.2 hO (fun z => by cases z))
      have cA2 := sm2 _ _ cA.2 (ne_of cA.2 hO (fun z => by cases z))
      have e2 : EaX (tCons (tCB (rLn K) (tCons (tFld K (tFld K (tVar 3) "frames") "packets") tNil)) (tCons (tCB (rLn K) (tCons (tFld K (tFld K (tVar 3) "acks") "packets") tNil)) tNil)) [some (.ref L), some (.ref l), some (.ref o), some (.ref a)] H2 [.int (qf.map V.ref).length, .int (qa.map V.ref).length] :=
        x_cons (x_len (x_fld (x_fld (x_v 3) aA2 cl (no_Link_frames T) lk_Link_frames) fA2 clC (no_Channel_packets T) lk_Channel_packets) (.of (sm2 _ _ fL.2 lfo))) (x_cons (x_len (x_fld (x_fld (x_v 3) aA2 cl (no_Link_acks T) lk_Link_acks) cA2 clC (no_Channel_packets T) lk_Channel_packets) (.of (sm2 _ _ cL.2 lao))) x_nil)
      rw [List.length_map, List.length_map, lF, lA] at e2
      refine y_extL hO2 (x_v 2) e2 (by show 2 ≤ 1000; decide) (by rw [List.length_append]; show _ + 2 + 2 ≤ 10000000; omega) fun p2 np2 => ?_
      generalize hH3 : upd (upd H2 p2 (.lst [.int m.fr.pk.length, .int m.ac.pk.length])) o (.lst (X ++ [.int m.sn.items.length, .int m.rc.del.length] ++ [.int m.fr.pk.length, .int m.ac.pk.length])) = H3
      have hO3 : H3 o = some (.lst (X ++ [.int m.sn.items.length, .int m.rc.del.length] ++ [.int m.fr.pk.length, .int m.ac.pk.length])) := by
        rw [← hH3, upd_same]
      have sm3 : ∀ u v, H2 u = some v → u ≠ o → H3 u = some v := fun u v h hu => by
        rw [← hH3, upd_ne hu, upd_ne (ne_of_none h np2)]
        exact h
      have smB : Same H H3 := by
        rw [← hH3]
        exact same_upd (fun u v h => (upd_ne (ne_of_none (smA _ _ h) np2)).trans (smA _ _ h)) no
      have aA3 := sm3 _ _ aA2 (ne_of aA.2 hO (fun z => by cases z))
      have fA3 := sm3 _ _ fA2 (ne_of fA.2 hO (fun z => by cases z))
      have cA3 := sm3 _ _ cA2 (ne_of cA.2 hO (fun z => by cases z))
      refine y_extL hO3 (x_v 2) (x_cons (x_fld (x_fld (x_v 3) aA3 cl (no_Link_frames T) lk_Link_frames) fA3 clC (no_Channel_sent_count T) lk_Channel_sent_count) (x_cons (x_fld (x_fld (x_v 3) aA3 cl (no_Link_acks T) lk_Link_acks) cA3 clC (no_Channel_sent_count T) lk_Channel_sent_count) x_nil)) (by show 2 ≤ 1000; decide) (by rw [List.length_append, List.length_append]; show _ + 2 + 2 + 2 ≤ 10000000; omega) fun p3 np3 => ?_
      refine ⟨⟨_, rfl⟩, same_upd (fun u v h => (upd_ne (ne_of_none (smB _ _ h) np3)).trans (smB _ _ h)) no, ?_⟩
      rw [upd_same, flat_step mCounts ms n m hm, ← hX]
      unfold mCounts
      simp only [List.map_append, List.map_cons, List.map_nil, List.append_assoc, List.cons_append, List.nil_append]
    · rintro σ H' ⟨⟨y2, rfl⟩, sm, hO⟩
      rw [List.length_map, hL.2.1, List.take_length] at hO
      dsimp only
      exact y_ret (x_v 2) (k g H' o as (Mv.same sm) no ((hL.same sm).more (by omega)) hO)
end
end W170

namespace W170
open PySem PySem.Spec PyProof.Rows L2
theorem dropTo_le (t : Nat) (s : Sn) : s.dropCnt t ≤ s.next - s.base := by
  unfold Sn.dropCnt
  exact Nat.le_trans (List.length_filter_le _ _) (by rw [List.length_range]; exact Nat.le_refl _)
def dropSum (t : Nat) (ms : List Lk) : Nat := (ms.map fun m => m.sn.dropCnt t).foldl (fun a b => a + b) 0
theorem dropSum_step (t : Nat) (ms : List Lk) (i : Nat) (m : Lk) (h : ms[i]? = some m) : dropSum t (ms.take (i + 1)) = dropSum t (ms.take i) + m.sn.dropCnt t := by
  unfold dropSum
  rw [List.take_add_one, h, List.map_append, List.foldl_append]
  rfl
section
variable {P : Program} {w : World} {K : PySem.W.Frag} {mg : Str → Option Value} {base : Heap} {C : Cs}
theorem c_drop_below (T : Txt K mg C) : C8.Cal P w K mg base 4 "drop_below" (SpSes K C (fun ms xs => mDropB ms (xs.getD 0 0)) 1) [] := by
  have cX : C8.Cal P w K mg base 3 "times_in_transit" (spTT C Lk.trans1) [] := c_times_in_transit T
  have cD : C8.Met P w K mg base 2 C.Sender "drop_contents" (spDropC C) [] := m_drop_contents T
  have cl := T.k_Link.cl
  refine df_g T.g_drop_below sc_drop_below (fun vs H Q E h => ?_) (fun f cdv A outer s H vs Q E hr h => ?_)
  · obtain ⟨_, _, _, _, _, _, _, rfl, _⟩ := h
    rfl
  · obtain ⟨g, L, l, as, ms, b, xs, rfl, hL, h4, oks, hb, hx, hl, gl, hres, k⟩ := h
    refine ⟨_, pss_cons (ps_set (i := 2) sc_drop_below.nd rfl (.inl rfl) (pe_ix ix_list (pv 1) pe_int (fun _ _ => rfl)))
      (pss_cons (ps_if (PW.pt (pw_or (pt_cmpR op_lt (pv 2) pe_int (nomark _)) (pw_or1 (pt_cmpR op_gt (pv 2) (pe_gi T.n_HIGHEST_TIME_LIMIT) (nomark _))))) (pss_one (ps_ret (pe_lst (pa_cons (pe_gi T.n_OUT_OF_RANGE) pa_nil)))) pss_nil)
      (pss_cons (ps_if (pt_cmpR op_lt (pe_minD rfl T.b_min (hu_of hr) (pa_cons (C8.pe_c cX hr (by decide) (by rfl) (pa_cons (pv 0) pa_nil)) pa_nil) (pv 2)) (pv 2) (nomark _)) (pss_one (ps_ret (pe_lst (pa_cons (pe_gi T.n_IN_TRANSIT) pa_nil)))) pss_nil)
      (pss_cons (ps_set (i := 3) sc_drop_below.nd rfl (.inl rfl) pe_int)
      (pss_cons (ps_for PassesOwn.never rfl (pi_list (pv 0)) (pg_name (i := 4) sc_drop_below.nd rfl (.inl rfl))
        (pss_one (ps_aug (i := 3) sc_drop_below.nd rfl (.inl rfl) (C8.pe_mt cD hr (by decide) (pe_fld (pv 4) rfl) (pa_cons (pv 2) pa_nil)) ip_add)))
      (pss_one (ps_ret (pe_lst (pa_cons (pv 3) pa_nil)))))))), ?_⟩
    obtain ⟨z, rfl⟩ : ∃ x, xs = [x] := by
      match xs, hx with
      | [x], _ => exact ⟨x, rfl⟩
    have hm : mDropB ms z = if Vbtwad.isBetween z 0 1000 = false then (ms, [-1]) else if ((mLeast ms).any fun u => decide (u < z.toNat)) = true then (ms, [-7]) else (mDrop z.toNat ms, [((dropSum z.toNat ms : Nat) : Int)]) := rfl
    have k' : ∀ g' H' p as', Mv Any4 g H g' H' → H p = none → LksAt C g' H' L as' (mDropB ms z).1 (b + 50000) → H' p = some (.lst ((mDropB ms z).2.map V.int)) → Q (.ref p) H' := k
    clear k hres
    refine y_asg (x_ix (n := 0) (x_v 1) x_c hl rfl) ?_
    have ev : EtX (tOr (tTest (tOp (rI0 fun i j => V.bl (decide (i < j))) (tVar 2) (tC (V.int 0)))) (tTest (tOp (rI0 fun i j => V.bl (decide (j < i))) (tVar 2) (tC (V.int 1000))))) [some (.ref L), some (.ref l), some (.int z), none, none] H (decide (z < 0) || decide (1000 < z)) :=
      x_or (x_test (x_i0 (x_v 2) x_c)) fun _ => x_test (x_i0 (x_v 2) x_c)
    refine y_if ev (fun e => ?_) (fun e => ?_)
    · have ef : mDropB ms z = (ms, [-1]) := by
        rw [hm, if_pos]
        unfold Vbtwad.isBetween
        rcases Bool.or_eq_true_iff.mp e with y | y
        · have := of_decide_eq_true y
          rw [decide_eq_false (show ¬ 0 ≤ z by omega), Bool.false_and]
        · have := of_decide_eq_true y
          rw [decide_eq_false (show ¬ z ≤ 1000 by omega), Bool.and_false]
      rw [ef] at k'
      refine y_retl (x_cons x_c x_nil) (by show 1 ≤ 1000; decide) fun p np => k' g _ p as (Mv.new' np) np ((hL.same (same_new np)).more (by omega)) ?_
      rw [upd_same]
      rfl
    · obtain ⟨f1, f2⟩ := Bool.or_eq_false_iff.mp e
      have r1 := of_decide_eq_false f1
      have r2 := of_decide_eq_false f2
      obtain ⟨t, rfl⟩ : ∃ t : Nat, z = (t : Int) := ⟨z.toNat, by omega⟩
      have hbt : ¬ Vbtwad.isBetween (t : Int) 0 1000 = false := by
        unfold Vbtwad.isBetween
        rw [decide_eq_true (show (0 : Int) ≤ t by omega), decide_eq_true (show (t : Int) ≤ 1000 by omega)]
        exact fun h => Bool.noConfusion h
      rw [if_neg hbt, Int.toNat_natCast] at hm
      dsimp only [tNext]
      -- what stands behind the test
      have hno : ∀ H1, Same H H1 → ((mLeast ms).any fun u => decide (u < t)) = true → (tRet (tLst (tCons (tC (V.int (-7))) tNil))) { nx := fun x H' => Q V.non H', rt := Q } [some (.ref L), some (.ref l), some (.int (t : Int)), none, none] H1 := fun H1 s1 hy => by
        rw [if_pos hy] at hm
        rw [hm] at k'
        refine y_retl (x_cons x_c x_nil) (by show 1 ≤ 1000; decide) fun p np => k' g _ p as ((Mv.same s1).trans (Mv.new' np)) (s1.free np) (((hL.same s1).same (same_new np)).more (by omega)) ?_
        rw [upd_same]
        rfl
      refine x_call (x_cons (x_v 0) x_nil) ⟨g, L, as, ms, b, rfl, hL, h4, oks, fun H1 p s1 np hp => ?_⟩
      have hyes : ((mLeast ms).any fun u => decide (u < t)) = false → tSeq (tAsg (tC (V.int 0)) (gName 3)) (tSeq (tFor (iList K (tVar 0)) (gName 4) (tAug 3 (tMeth C.Sender "drop_contents" (spDropC C) [] C8.E0 (tFld K (tVar 4) "sender") (tCons (tVar 2) tNil)) (ipI fun i j => i + j))) (tRet (tLst (tCons (tVar 3) tNil)))) { nx := fun x H' => Q V.non H', rt := Q } [some (.ref L), some (.ref l), some (.int (t : Int)), none, none] H1 := fun hn => by
        rw [if_neg (by rw [hn]; exact Bool.false_ne_true)] at hm
        rw [hm] at k'
        have hL1 := hL.same s1
        refine y_asg x_c ?_
        refine ⟨_, rfl, L, rfl, ⟨_, .of hL1.1.2⟩, for_list (K := K) (a := L) (xs := as.map V.ref)
          (fun n σ H' => (∃ y, σ = [some (.ref L), some (.ref l), some (.int (t : Int)), some (.int (dropSum t (ms.take n) : Nat)), y]) ∧ Mv Any4 g H g H' ∧ At g H' (0, 8, 0) L (.lst (as.map V.ref)) ∧ ∀ i a m, as[i]? = some a → ms[i]? = some m → LkAt C g H' i a (if i < n then { m with sn := m.sn.drop t } else m) (if i < n then b + 200 else b))
          ⟨⟨_, rfl⟩, Mv.same s1, hL1.1, fun i a m h1 h2 => by rw [if_neg (Nat.not_lt_zero i), if_neg (Nat.not_lt_zero i)]; exact hL1.2.2 i a m h1 h2⟩ (fun n σ H' _ h => .of h.2.2.1.2) ?_ ?_⟩
        · rintro n y σ H' hy ⟨⟨y2, rfl⟩, mv, hLl, hA⟩
          obtain ⟨a, ha, rfl⟩ := map_get hy
          have hlt : n < ms.length := by
            rw [← hL.2.1]
            exact (List.getElem?_eq_some_iff.mp ha).1
          have hmn : ms[n]? = some ms[n] := List.getElem?_eq_getElem hlt
          have okm := oks _ (List.getElem_mem hlt)
          generalize ms[n] = m at hmn okm
          have hLm := hA n a m ha hmn
          rw [if_neg (Nat.lt_irrefl n), if_neg (Nat.lt_irrefl n)] at hLm
          obtain ⟨dx, fa, ca, sa, ra, aA, hF, hAc, hS, hR⟩ := hLm
          have hS0 := hS
          obtain ⟨dxs, l1, da, dd, ps, ka, kd, sA, _⟩ := hS0
          refine ⟨_, rfl, ?_⟩
          refine x_meth (x_fld (x_v 4) aA.2 cl (no_Link_sender T) lk_Link_sender) sA.2 nm_Sender_drop_contents (x_cons (x_v 2) x_nil) ⟨g, n, sa, fa, m.W, m.M, m.sn, b, t, rfl, hS, okm.sn, okm.its, by omega, fun H2 mv2 hS2 => ⟨_, _, rfl, rfl, ?_⟩⟩
          refine ⟨⟨some (.ref a), ?_⟩, mv.trans (mv2.mono fun r z => by rw [z]; exact ⟨by show 3 ≤ 8; decide, fun h => by cases congrArg (fun r : Role => r.2.1) h⟩), hLl.mv mv2 (fun z => by cases congrArg (fun r : Role => r.2.1) z), fun i a' m' h1 h2 => ?_⟩
          · rw [dropSum_step t ms n m hmn, Int.natCast_add]
            rfl
          · by_cases c : i = n
            · subst c
              rw [ha] at h1
              rw [hmn] at h2
              have e1 := Option.some.inj h1
              have e2 := Option.some.inj h2
              subst e1
              subst e2
              rw [if_pos (Nat.lt_succ_self _), if_pos (Nat.lt_succ_self _)]
              exact ⟨dx, fa, ca, sa, ra, aA.mv mv2 (ne_part (by decide)), hF.mv mv2 (fun _ => ne_part (by decide)), hAc.mv mv2 (fun _ => ne_part (by decide)), hS2, hR.mv mv2 (fun _ => ne_part (by decide)) (imm_ne (by decide))⟩
            · have hold := (hA i a' m' h1 h2).mv mv2 (fun j nn _ z => c (congrArg (fun r : Role => r.1) z)) (imm_ne (by decide))
              by_cases d : i < n
              · rw [if_pos d, if_pos d] at hold
                rw [if_pos (show i < n + 1 by omega), if_pos (show i < n + 1 by omega)]
                exact hold
              · rw [if_neg d, if_neg d] at hold
                rw [if_neg (show ¬ i < n + 1 by omega), if_neg (show ¬ i < n + 1 by omega)]
                exact hold
        · rintro σ H' ⟨⟨y2, rfl⟩, mv, hLl, hA⟩
          rw [List.length_map, hL.2.1] at hA
          rw [List.length_map, hL.2.1, List.take_length]
          dsimp only
          refine y_retl (x_cons (x_v 3) x_nil) (by show 1 ≤ 1000; decide) fun o no => ?_
          refine k' g _ o as (mv.trans (Mv.new' no)) (mv.free no) ⟨hLl.same (same_new no), ?_, fun i a m' h1 h2 => ?_⟩ ?_
          · show as.length = (mDrop t ms).length
            unfold mDrop
            rw [List.length_map]
            exact hL.2.1
          · have h2' : (mDrop t ms)[i]? = some m' := h2
            unfold mDrop at h2'
            rw [List.getElem?_map] at h2'
            obtain ⟨m, hm1, rfl⟩ := Option.map_eq_some_iff.mp h2'
            have lt := (List.getElem?_eq_some_iff.mp hm1).1
            have h := hA i a m h1 hm1
            rw [if_pos lt, if_pos lt] at h
            exact (h.new no).more (by omega)
          · rw [upd_same]
            rfl
      have hml : mLeast ms = Vbtwad.minimumOf (allTimes Lk.trans1 ms) := rfl
      refine ⟨_, rfl, p, _, rfl, .of hp, fun en => ?_, fun m h1 h2 => ?_⟩
      · have ez : allTimes Lk.trans1 ms = [] := by
          cases h : allTimes Lk.trans1 ms with
          | nil => rfl
          | cons u v =>
            rw [h] at en
            cases en
        refine ⟨_, rfl, _, _, rfl, rfl, _, rfl, if_c (fun e => ?_) (fun e => ?_)⟩
        · have := of_decide_eq_true e
          omega
        · refine hyes ?_
          rw [hml, ez]
          rfl
      · obtain ⟨u, rfl, hu⟩ := minimum_is h1 h2
        have ea : ((mLeast ms).any fun u => decide (u < t)) = decide (u < t) := by
          rw [hml, hu]
          rfl
        refine ⟨_, rfl, _, _, rfl, rfl, _, rfl, if_c (fun e => ?_) (fun e => ?_)⟩
        · rw [decN, ← ea] at e
          exact hno H1 s1 e
        · rw [decN, ← ea] at e
          exact hyes e
end
end W170

namespace W170
open PySem PySem.Spec PyProof.Rows L2
/-! ### one call, as a plain function -/
def opL (n : Int) (m : Lk) (xs it : List Int) : Lk × List Int :=
  if n = 1 then mSend m it else if n = 2 then mRetr m (xs.getD 0 0) else if n = 3 then mDelF m (xs.getD 0 0) (xs.getD 1 0) else if n = 4 then mLoseF m (xs.getD 0 0) else if n = 5 then mCorF m (xs.getD 0 0) (xs.getD 1 0) (xs.getD 2 0)
  else if n = 6 then mSendA m else if n = 7 then mDelA m (xs.getD 0 0) (xs.getD 1 0) else if n = 8 then mLoseA m (xs.getD 0 0) else if n = 9 then mCorA m (xs.getD 0 0) (xs.getD 1 0) (xs.getD 2 0) else if n = 10 then mListF m
  else if n = 11 then (m, pkList m.ac) else if n = 12 then (m, mSState m) else if n = 13 then (m, mRState m) else if n = 14 then (m, mListD m (xs.getD 0 0)) else if n = 15 then (m, mListT m) else mRecover m
def opS (n : Int) (ms : List Lk) (xs : List Int) : List Lk × List Int :=
  if n = 0 then nLink ms xs else if n = 16 then (ms, mMinTimes ms) else if n = 17 then mDropB ms (xs.getD 0 0) else if n = 18 then (ms, mCheck (xs.getD 0 0) (xs.getD 1 0) (xs.getD 2 0) (xs.getD 3 0) (xs.getD 4 0))
  else if n = 19 then (ms, mFail (xs.getD 0 0) (xs.getD 1 0) (xs.getD 2 0) (xs.getD 3 0) (xs.getD 4 0)) else (ms, mAllCounts ms)
def mLink (ms : List Lk) (z : Int) (f : Lk → Lk × List Int) : List Lk × List Int := if z < 0 then (ms, [-2]) else match ms[z.toNat]? with
  | none => (ms, [-2])
  | some m => (ms.set z.toNat (f m).1, (f m).2)
abbrev SESS : List (Int × Str) := [(0, "new_link"), (16, "minimum_times"), (17, "drop_below"), (18, "check_parameters"), (19, "find_failure"), (21, "get_counts")]
abbrev LINKS : List (Int × Str) := [(1, "send_item"), (2, "retransmit"), (3, "deliver_frame"), (4, "lose_frame"), (5, "corrupt_frame"), (6, "send_ack"), (7, "deliver_ack"), (8, "lose_ack"), (9, "corrupt_ack"), (10, "list_frames"), (11, "list_acks"), (12, "sender_state"), (13, "receiver_state"), (14, "list_delivered"), (15, "list_in_transit"), (20, "recover")]
def mStep (ms : List Lk) (n : Int) (xs it : List Int) : List Lk × List Int := if (look SESS n).isSome = true then opS n ms xs else mLink ms (xs.getD 0 0) fun m => opL n m (xs.drop 1) it
/-- what the arguments' list holds: numbers, and behind them the item's list -/
def ArgAt (K : PySem.W.Frag) (g : Gh) (H : Hp) (l : Addr) (n : Int) (xs it : List Int) : Prop := g l = imm ∧ if n = 1 then ∃ p, H l = some (.lst (xs.map V.int ++ [.ref p])) ∧ ItAt g H p it else H l = some (.lst (xs.map V.int))
def nargs (n : Int) : Nat := ([5, 1, 2, 3, 2, 4, 1, 3, 2, 4, 1, 1, 1, 1, 2, 1, 0, 1, 5, 5, 1, 0] : List Nat).getD n.toNat 0
def tblS (K : PySem.W.Frag) (C : Cs) : List (Str × Sp) := [("new_link", SpSes K C nLink 5),
  ("minimum_times", SpSes K C (fun ms _ => (ms, mMinTimes ms)) 0),
  ("drop_below", SpSes K C (fun ms xs => mDropB ms (xs.getD 0 0)) 1),
  ("check_parameters", SpSes K C (fun ms xs => (ms, mCheck (xs.getD 0 0) (xs.getD 1 0) (xs.getD 2 0) (xs.getD 3 0) (xs.getD 4 0))) 5),
  ("find_failure", SpSes K C (fun ms xs => (ms, mFail (xs.getD 0 0) (xs.getD 1 0) (xs.getD 2 0) (xs.getD 3 0) (xs.getD 4 0))) 5),
  ("get_counts", SpSes K C (fun ms _ => (ms, mAllCounts ms)) 0)]
def tblL (K : PySem.W.Frag) (C : Cs) : List (Str × Sp) := [("send_item", spSendItem K C),
  ("retransmit", SpLk K C (fun m xs => mRetr m (xs.getD 0 0)) 1),
  ("deliver_frame", SpLk K C (fun m xs => mDelF m (xs.getD 0 0) (xs.getD 1 0)) 2),
  ("lose_frame", SpLk K C (fun m xs => mLoseF m (xs.getD 0 0)) 1),
  ("corrupt_frame", SpLk K C (fun m xs => mCorF m (xs.getD 0 0) (xs.getD 1 0) (xs.getD 2 0)) 3),
  ("send_ack", SpLk K C (fun m _ => mSendA m) 0),
  ("deliver_ack", SpLk K C (fun m xs => mDelA m (xs.getD 0 0) (xs.getD 1 0)) 2),
  ("lose_ack", SpLk K C (fun m xs => mLoseA m (xs.getD 0 0)) 1),
  ("corrupt_ack", SpLk K C (fun m xs => mCorA m (xs.getD 0 0) (xs.getD 1 0) (xs.getD 2 0)) 3),
  ("list_frames", SpLk K C (fun m _ => mListF m) 0),
  ("list_acks", SpLk K C (fun m _ => (m, pkList m.ac)) 0),
  ("sender_state", SpLk K C (fun m _ => (m, mSState m)) 0),
  ("receiver_state", SpLk K C (fun m _ => (m, mRState m)) 0),
  ("list_delivered", SpLkB K C (fun m xs => (m, mListD m (xs.getD 0 0))) 1),
  ("list_in_transit", SpLk K C (fun m _ => (m, mListT m)) 0),
  ("recover", SpLk K C (fun m _ => mRecover m) 0)]
def SpAns (K : PySem.W.Frag) (C : Cs) : Sp := fun vs H Q _ => ∃ (g : Gh) (L l : Addr) (as : List Addr) (ms : List Lk) (b : Nat) (n : Int) (xs it : List Int), vs = [.ref L, .int n, .ref l] ∧ LksAt C g H L as ms b ∧ (∀ m ∈ ms, LkAll m b) ∧ ms.length ≤ 4 ∧ b ≤ 8000000 ∧ (0 ≤ n ∧ n ≤ 21) ∧ xs.length = nargs n ∧ ArgAt K g H l n xs it ∧ (mStep ms n xs it).2.length ≤ 10000000 ∧
  ∀ g' H' p as', Mv Any4 g H g' H' → H p = none → LksAt C g' H' L as' (mStep ms n xs it).1 (b + 50000) → H' p = some (.lst ((mStep ms n xs it).2.map V.int)) → Q (.ref p) H'
section
variable {P : Program} {w : World} {K : PySem.W.Frag} {mg : Str → Option Value} {base : Heap} {C : Cs}
theorem GDefs.gd {x : Str} {l : List (Int × Str)} (h : GDefs K mg x l) : ∃ a, mg x = some (.ref a) ∧ GD K mg a l := by
  obtain ⟨a, es, n, h1, h2, h3, h4⟩ := h
  exact ⟨a, h1, es, n, h2, h3, h4⟩
/-- link i of the links is another one now -/
theorem LksAt.put {g g' : Gh} {H H' : Hp} {L : Addr} {as : List Addr} {ms : List Lk} {b : Nat} (h : LksAt C g H L as ms b) {i : Nat} {a : Addr} {m' : Lk} (ha : as[i]? = some a) (mv : Mv (LS i) g H g' H') (hm : LkAt C g' H' i a m' (b + 50000)) : LksAt C g' H' L as (ms.set i m') (b + 50000) := by
  refine ⟨h.1.mv mv (fun z => absurd z.2 (by decide)), by rw [List.length_set]; exact h.2.1, fun j a' m h1 h2 => ?_⟩
  by_cases c : j = i
  · subst c
    rw [ha] at h1
    have e1 := Option.some.inj h1
    have lt : j < ms.length := by
      rw [← h.2.1]
      exact (List.getElem?_eq_some_iff.mp ha).1
    rw [List.getElem?_set_self lt] at h2
    have e2 := Option.some.inj h2
    rw [← e1, ← e2]
    exact hm
  · rw [List.getElem?_set_ne (Ne.symm c)] at h2
    exact ((h.2.2 j a' m h1 h2).mv mv (fun j' n _ z => c z.1) (fun z => absurd z.2 (by decide))).more (by omega)
/-- which def is called, and what it promises -/
theorem look_S {n : Int} (h0 : 0 ≤ n) (h21 : n ≤ 21) (h : (look SESS n).isSome = true) : ∃ nm fn, look SESS n = some nm ∧ (nm, SpSes K C fn (nargs n)) ∈ tblS K C ∧ n ≠ 1 ∧ ∀ ms xs, fn ms xs = opS n ms xs := by
  obtain ⟨j, rfl⟩ : ∃ j : Nat, n = (j : Int) := ⟨n.toNat, by omega⟩
  match j, h, (show j ≤ 21 by omega) with
  | 0, _, _ => exact ⟨"new_link", _, rfl, (.head _), by decide, fun _ _ => rfl⟩
  | 1, h, _ => exact Bool.noConfusion h
  | 2, h, _ => exact Bool.noConfusion h
  | 3, h, _ => exact Bool.noConfusion h
  | 4, h, _ => exact Bool.noConfusion h
  | 5, h, _ => exact Bool.noConfusion h
  | 6, h, _ => exact Bool.noConfusion h
  | 7, h, _ => exact Bool.noConfusion h
  | 8, h, _ => exact Bool.noConfusion h
  | 9, h, _ => exact Bool.noConfusion h
  | 10, h, _ => exact Bool.noConfusion h
  | 11, h, _ => exact Bool.noConfusion h
  | 12, h, _ => exact Bool.noConfusion h
  | 13, h, _ => exact Bool.noConfusion h
  | 14, h, _ => exact Bool.noConfusion h
  | 15, h, _ => exact Bool.noConfusion h
  | 16, _, _ => exact ⟨"minimum_times", _, rfl, (.tail _ (.head _)), by decide, fun _ _ => rfl⟩
  | 17, _, _ => exact ⟨"drop_below", _, rfl, (.tail _ (.tail _ (.head _))), by decide, fun _ _ => rfl⟩
  | 18, _, _ => exact ⟨"check_parameters", _, rfl, (.tail _ (.tail _ (.tail _ (.head _)))), by decide, fun _ _ => rfl⟩
  | 19, _, _ => exact ⟨"find_failure", _, rfl, (.tail _ (.tail _ (.tail _ (.tail _ (.head _))))), by decide, fun _ _ => rfl⟩
  | 20, h, _ => exact Bool.noConfusion h
  | 21, _, _ => exact ⟨"get_counts", _, rfl, (.tail _ (.tail _ (.tail _ (.tail _ (.tail _ (.head _)))))), by decide, fun _ _ => rfl⟩
  | j + 22, _, h => omega
theorem look_L {n : Int} (it : List Int) (h0 : 0 ≤ n) (h21 : n ≤ 21) (h : (look SESS n).isSome = false) : 1 ≤ nargs n ∧ ∃ nm sp, look LINKS n = some nm ∧ (nm, sp) ∈ tblL K C ∧ ((n = 1 ∧ sp = spSendItem K C) ∨ (n ≠ 1 ∧ ∃ fn, (sp = SpLk K C fn (nargs n - 1) ∨ sp = SpLkB K C fn (nargs n - 1)) ∧ ∀ m xs, fn m xs = opL n m xs it)) := by
  obtain ⟨j, rfl⟩ : ∃ j : Nat, n = (j : Int) := ⟨n.toNat, by omega⟩
  match j, h, (show j ≤ 21 by omega) with
  | 0, h, _ => exact Bool.noConfusion h
  | 1, _, _ => exact ⟨by decide, "send_item", _, rfl, (.head _), .inl ⟨rfl, rfl⟩⟩
  | 2, _, _ => exact ⟨by decide, "retransmit", _, rfl, (.tail _ (.head _)), .inr ⟨by decide, _, .inl rfl, fun _ _ => rfl⟩⟩
  | 3, _, _ => exact ⟨by decide, "deliver_frame", _, rfl, (.tail _ (.tail _ (.head _))), .inr ⟨by decide, _, .inl rfl, fun _ _ => rfl⟩⟩
  | 4, _, _ => exact ⟨by decide, "lose_frame", _, rfl, (.tail _ (.tail _ (.tail _ (.head _)))), .inr ⟨by decide, _, .inl rfl, fun _ _ => rfl⟩⟩
  | 5, _, _ => exact ⟨by decide, "corrupt_frame", _, rfl, (.tail _ (.tail _ (.tail _ (.tail _ (.head _))))), .inr ⟨by decide, _, .inl rfl, fun _ _ => rfl⟩⟩
  | 6, _, _ => exact ⟨by decide, "send_ack", _, rfl, (.tail _ (.tail _ (.tail _ (.tail _ (.tail _ (.head _)))))), .inr ⟨by decide, _, .inl rfl, fun _ _ => rfl⟩⟩
  | 7, _, _ => exact ⟨by decide, "deliver_ack", _, rfl, (.tail _ (.tail _ (.tail _ (.tail _ (.tail _ (.tail _ (.head _))))))), .inr ⟨by decide, _, .inl rfl, fun _ _ => rfl⟩⟩
  | 8, _, _ => exact ⟨by decide, "lose_ack", _, rfl, (.tail _ (.tail _ (.tail _ (.tail _ (.tail _ (.tail _ (.tail _ (.head _)))))))), .inr ⟨by decide, _, .inl rfl, fun _ _ => rfl⟩⟩
  | 9, _, _ => exact ⟨by decide, "corrupt_ack", _, rfl, (.tail _ (.tail _ (.tail _ (.tail _ (.tail _ (.tail _ (.tail _ (.tail _ (.head _))))))))), .inr ⟨by decide, _, .inl rfl, fun _ _ => rfl⟩⟩
  | 10, _, _ => exact ⟨by decide, "list_frames", _, rfl, (.tail _ (.tail _ (.tail _ (.tail _ (.tail _ (.tail _ (.tail _ (.tail _ (.tail _ (.head _)))))))))), .inr ⟨by decide, _, .inl rfl, fun _ _ => rfl⟩⟩
  | 11, _, _ => exact ⟨by decide, "list_acks", _, rfl, (.tail _ (.tail _ (.tail _ (.tail _ (.tail _ (.tail _ (.tail _ (.tail _ (.tail _ (.tail _ (.head _))))))))))), .inr ⟨by decide, _, .inl rfl, fun _ _ => rfl⟩⟩
  | 12, _, _ => exact ⟨by decide, "sender_state", _, rfl, (.tail _ (.tail _ (.tail _ (.tail _ (.tail _ (.tail _ (.tail _ (.tail _ (.tail _ (.tail _ (.tail _ (.head _)))))))))))), .inr ⟨by decide, _, .inl rfl, fun _ _ => rfl⟩⟩
  | 13, _, _ => exact ⟨by decide, "receiver_state", _, rfl, (.tail _ (.tail _ (.tail _ (.tail _ (.tail _ (.tail _ (.tail _ (.tail _ (.tail _ (.tail _ (.tail _ (.tail _ (.head _))))))))))))), .inr ⟨by decide, _, .inl rfl, fun _ _ => rfl⟩⟩
  | 14, _, _ => exact ⟨by decide, "list_delivered", _, rfl, (.tail _ (.tail _ (.tail _ (.tail _ (.tail _ (.tail _ (.tail _ (.tail _ (.tail _ (.tail _ (.tail _ (.tail _ (.tail _ (.head _)))))))))))))), .inr ⟨by decide, _, .inr rfl, fun _ _ => rfl⟩⟩
  | 15, _, _ => exact ⟨by decide, "list_in_transit", _, rfl, (.tail _ (.tail _ (.tail _ (.tail _ (.tail _ (.tail _ (.tail _ (.tail _ (.tail _ (.tail _ (.tail _ (.tail _ (.tail _ (.tail _ (.head _))))))))))))))), .inr ⟨by decide, _, .inl rfl, fun _ _ => rfl⟩⟩
  | 16, h, _ => exact Bool.noConfusion h
  | 17, h, _ => exact Bool.noConfusion h
  | 18, h, _ => exact Bool.noConfusion h
  | 19, h, _ => exact Bool.noConfusion h
  | 20, _, _ => exact ⟨by decide, "recover", _, rfl, (.tail _ (.tail _ (.tail _ (.tail _ (.tail _ (.tail _ (.tail _ (.tail _ (.tail _ (.tail _ (.tail _ (.tail _ (.tail _ (.tail _ (.tail _ (.head _)))))))))))))))), .inr ⟨by decide, _, .inl rfl, fun _ _ => rfl⟩⟩
  | 21, h, _ => exact Bool.noConfusion h
  | j + 22, _, h => omega
theorem cut_tail {x : V} {xs : List V} : cutV (x :: xs) (some 1) none = xs := by
  unfold cutV
  have e1 : HT.sIx (x :: xs).length 0 (some 1) = 1 := by
    have h : (x :: xs).length = xs.length + 1 := rfl
    rw [h]
    simp [HT.sIx]
  have e2 : HT.sIx (x :: xs).length (x :: xs).length none = xs.length + 1 := rfl
  rw [e1, e2]
  show xs.take (xs.length + 1 - 1) = xs
  rw [Nat.add_sub_cancel]
  exact List.take_length
theorem c_answer_call (T : Txt K mg C) : C8.Cal P w K mg base 11 "answer_call" (SpAns K C) [] := by
  obtain ⟨aS, mS, gS⟩ := T.n_SESSION_CALLS.gd
  obtain ⟨aL, mL, gL⟩ := T.n_LINK_CALLS.gd
  have AS : ∀ nm sp, (nm, sp) ∈ tblS K C → ∃ k, k ≤ 10 ∧ C8.Cal P w K mg base k nm sp [] := fun nm sp h => by
    simp only [tblS, List.mem_cons, List.not_mem_nil, or_false, Prod.mk.injEq] at h
    rcases h with ⟨rfl, rfl⟩ | ⟨rfl, rfl⟩ | ⟨rfl, rfl⟩ | ⟨rfl, rfl⟩ | ⟨rfl, rfl⟩ | ⟨rfl, rfl⟩
    · exact ⟨5, by decide, c_new_link T⟩
    · exact ⟨4, by decide, c_minimum_times T⟩
    · exact ⟨4, by decide, c_drop_below T⟩
    · exact ⟨2, by decide, c_check T⟩
    · exact ⟨5, by decide, c_find_failure T⟩
    · exact ⟨1, by decide, c_get_counts T⟩
  have AL : ∀ nm sp, (nm, sp) ∈ tblL K C → ∃ k, k ≤ 10 ∧ C8.Cal P w K mg base k nm sp [] := fun nm sp h => by
    simp only [tblL, List.mem_cons, List.not_mem_nil, or_false, Prod.mk.injEq] at h
    rcases h with ⟨rfl, rfl⟩ | ⟨rfl, rfl⟩ | ⟨rfl, rfl⟩ | ⟨rfl, rfl⟩ | ⟨rfl, rfl⟩ | ⟨rfl, rfl⟩ | ⟨rfl, rfl⟩ | ⟨rfl, rfl⟩ | ⟨rfl, rfl⟩ | ⟨rfl, rfl⟩ | ⟨rfl, rfl⟩ | ⟨rfl, rfl⟩ | ⟨rfl, rfl⟩ | ⟨rfl, rfl⟩ | ⟨rfl, rfl⟩ | ⟨rfl, rfl⟩
    · exact ⟨7, by decide, c_send_item T⟩
    · exact ⟨6, by decide, c_retransmit T⟩
    · exact ⟨4, by decide, c_deliver_frame T⟩
    · exact ⟨3, by decide, c_lose_frame T⟩
    · exact ⟨3, by decide, c_corrupt_frame T⟩
    · exact ⟨5, by decide, c_send_ack T⟩
    · exact ⟨8, by decide, c_deliver_ack T⟩
    · exact ⟨3, by decide, c_lose_ack T⟩
    · exact ⟨3, by decide, c_corrupt_ack T⟩
    · exact ⟨3, by decide, c_list_frames T⟩
    · exact ⟨3, by decide, c_list_acks T⟩
    · exact ⟨3, by decide, c_sender_state T⟩
    · exact ⟨2, by decide, c_receiver_state T⟩
    · exact ⟨2, by decide, c_list_delivered T⟩
    · exact ⟨3, by decide, c_list_in_transit T⟩
    · exact ⟨10, by decide, c_recover T⟩
  refine df_g T.g_answer_call sc_answer_call (fun vs H Q E h => ?_) (fun f cdv A outer s H vs Q E hr h => ?_)
  · obtain ⟨_, _, _, _, _, _, _, _, _, rfl, _⟩ := h
    rfl
  · obtain ⟨g, L, l, as, ms, b, n, xs, it, rfl, hL, ok, h4, hb, hn, hx, hA, hres, k⟩ := h
    refine ⟨_, pss_cons (ps_if (pt_cmpR op_gin (pv 1) (pe_gr mS) (by rfl)) (pss_cons (ps_set (i := 3) sc_answer_call.nd rfl (.inl rfl) (pe_ix ix_gd (pe_gr mS) (pv 1) (fun _ _ => rfl)))
        (pss_one (ps_ret (pe_callN (i := 3) (W := fun nm sp => (nm, sp) ∈ tblS K C) AS hr rfl (.inl rfl) (pa_cons (pv 0) (pa_cons (pv 2) pa_nil)))))) pss_nil)
      (pss_cons (ps_set (i := 4) sc_answer_call.nd rfl (.inl rfl) (pe_ix ix_list (pv 2) pe_int (fun _ _ => rfl)))
      (pss_cons (ps_if (PW.pt (pw_or (pt_cmpR op_lt (pv 4) pe_int (nomark _)) (pw_or1 (pt_cmpR op_ge (pv 4) (pe_ln T.b_len (pv 0)) (nomark _))))) (pss_one (ps_ret (pe_lst (pa_cons (pe_gi T.n_NO_LINK) pa_nil)))) pss_nil)
      (pss_cons (ps_set (i := 5) sc_answer_call.nd rfl (.inl rfl) (pe_ix ix_gd (pe_gr mL) (pv 1) (fun _ _ => rfl)))
      (pss_one (ps_ret (pe_callN (i := 5) (W := fun nm sp => (nm, sp) ∈ tblL K C) AL hr rfl (.inl rfl) (pa_cons (pe_ix ix_list (pv 0) (pv 4) (fun _ _ => rfl)) (pa_cons (pe_slice sl_list (pv 2) (po_some pe_int) po_none) pa_nil)))))))), ?_⟩
    refine y_if (a := (look SESS n).isSome) (fun Q q => ⟨_, rfl, aS, _, n, rfl, rfl, gS, _, rfl, q⟩) (fun e => ?_) (fun e => ?_)
    · obtain ⟨nm, fn, hlk, hmem, n1, hfn⟩ := look_S (K := K) (C := C) hn.1 hn.2 e
      have hst : mStep ms n xs it = fn ms xs := (if_pos e).trans (hfn ms xs).symm
      rw [hst] at k hres
      refine ⟨_, rfl, aS, _, n, nm, rfl, rfl, gS, hlk, fun f hf => ?_⟩
      refine ⟨f, nm, _, rfl, hf, hmem, ?_⟩
      refine x_cons (x_v 0) (x_cons (x_v 2) x_nil) _ ?_
      have hl := hA.2
      rw [if_neg n1] at hl
      exact ⟨g, L, l, as, ms, b, xs, rfl, hL, h4, ok, hb, hx, .of hl, hA.1, hres, k⟩
    · have hst : mStep ms n xs it = mLink ms (xs.getD 0 0) fun m => opL n m (xs.drop 1) it := if_neg (by rw [e]; exact Bool.false_ne_true)
      obtain ⟨hna, nm, sp, hlk, hmem, hsp⟩ := look_L (K := K) (C := C) it hn.1 hn.2 e
      obtain ⟨z, xr, rfl⟩ : ∃ z xr, xs = z :: xr := by
        cases xs with
        | nil =>
          exfalso
          rw [← hx] at hna
          exact absurd hna (by decide)
        | cons z xr => exact ⟨z, xr, rfl⟩
      rw [hst] at k hres
      have hvs : ∃ vr, H l = some (.lst (.int z :: vr)) ∧ ((n = 1 ∧ ∃ p, vr = [.ref p] ∧ ItAt g H p it) ∨ (n ≠ 1 ∧ vr = xr.map V.int)) := by
        by_cases c : n = 1
        · have h := hA.2
          rw [if_pos c] at h
          obtain ⟨p, h, h'⟩ := h
          subst c
          have : xr = [] := by
            have h : xr.length + 1 = 1 := hx
            exact List.length_eq_zero_iff.mp (by omega)
          subst this
          exact ⟨_, h, .inl ⟨rfl, p, rfl, h'⟩⟩
        · have h := hA.2
          rw [if_neg c] at h
          exact ⟨_, h, .inr ⟨c, rfl⟩⟩
      obtain ⟨vr, hl, hvr⟩ := hvs
      dsimp only [tNext]
      refine y_asg (x_ix (n := 0) (x_v 2) x_c (.of hl) rfl) ?_
      have hLl := hL.1
      have eL : EvX (tCB (rLn K) (tCons (tVar 0) tNil)) [some (V.ref L), some (V.int n), some (V.ref l), none, some (V.int z), none] H (.int (as.map V.ref).length) := x_len (x_v 0) (.of hLl.2)
      rw [List.length_map, hL.2.1] at eL
      have ev : EtX (tOr (tTest (tOp (rI0 fun i j => V.bl (decide (i < j))) (tVar 4) (tC (V.int 0)))) (tTest (tOp (rI0 fun i j => V.bl (decide (i ≥ j))) (tVar 4) (tCB (rLn K) (tCons (tVar 0) tNil))))) [some (V.ref L), some (V.int n), some (V.ref l), none, some (V.int z), none] H (decide (z < 0) || decide (z ≥ (ms.length : Int))) :=
        x_or (x_test (x_i0 (x_v 4) x_c)) fun _ => x_test (x_i0 (x_v 4) eL)
      refine y_if ev (fun e2 => ?_) (fun e2 => ?_)
      · have e3 : z < 0 ∨ (ms.length : Int) ≤ z := by
          rcases Bool.or_eq_true_iff.mp e2 with h | h
          · exact .inl (of_decide_eq_true h)
          · exact .inr (of_decide_eq_true h)
        have ef : mLink ms ((z :: xr).getD 0 0) (fun m => opL n m ((z :: xr).drop 1) it) = (ms, [-2]) := by
          show mLink ms z _ = _
          unfold mLink
          by_cases c : z < 0
          · rw [if_pos c]
          · rw [if_neg c, List.getElem?_eq_none (by omega)]
        rw [ef] at k
        refine y_retl (x_cons x_c x_nil) (by show 1 ≤ 1000; decide) fun p np => k g _ p as (Mv.new' np) np ((hL.same (same_new np)).more (by omega)) (by rw [upd_same]; rfl)
      · have e3 : 0 ≤ z ∧ z < (ms.length : Int) := by
          have ⟨h1, h2⟩ := Bool.or_eq_false_iff.mp e2
          exact ⟨by have := of_decide_eq_false h1; omega, by have := of_decide_eq_false h2; omega⟩
        obtain ⟨i, rfl⟩ : ∃ i : Nat, z = (i : Int) := ⟨z.toNat, by omega⟩
        have li : i < ms.length := by omega
        have em : ms[i]? = some ms[i] := List.getElem?_eq_getElem li
        have ea : as[i]? = some (as[i]'(by rw [hL.2.1]; exact li)) := List.getElem?_eq_getElem _
        generalize as[i]'(by rw [hL.2.1]; exact li) = a at ea
        have okm : LkAll ms[i] b := ok _ (List.getElem_mem li)
        generalize ms[i] = m at em okm
        have ef : mLink ms (((i : Int) :: xr).getD 0 0) (fun m => opL n m (((i : Int) :: xr).drop 1) it) = (ms.set i (opL n m xr it).1, (opL n m xr it).2) := by
          show mLink ms (i : Int) _ = _
          unfold mLink
          rw [if_neg (by omega), Int.toNat_natCast, em]
          rfl
        rw [ef] at k hres
        have hm := hL.2.2 i a m ea em
        dsimp only [tSeq]
        refine ⟨_, rfl, aL, _, n, nm, rfl, rfl, gL, hlk, fun f hf => ?_⟩
        refine ⟨f, nm, sp, rfl, hf, hmem, ?_⟩
        refine (x_ix (n := i) (x_v 0) (x_v 4) (.of hLl.2) (by rw [List.getElem?_map, ea]; rfl)) _ ?_
        refine ⟨_, rfl, 1, rfl, l, _, rfl, .of hl, fun p np => ?_⟩
        rw [cut_tail]
        have mv0 : ∀ {S : Role → Prop}, Mv S g H (tagAt g p imm) (upd H p (.lst vr)) := Mv.new imm np
        have hm0 : LkAt C (tagAt g p imm) (upd H p (.lst vr)) i a m b := hm.mv (S := fun _ => False) mv0 (fun _ _ _ z => z) (fun z => z)
        have hL0 : LksAt C (tagAt g p imm) (upd H p (.lst vr)) L as ms b := ⟨hL.1.mv (S := fun _ => False) mv0 (fun z => z), hL.2.1, fun i a m h1 h2 => (hL.2.2 i a m h1 h2).mv (S := fun _ => False) mv0 (fun _ _ _ z => z) (fun z => z)⟩
        show sp [.ref a, .ref p] (upd H p (.lst vr)) _ _
        rcases hvr with ⟨rfl, p1, rfl, hI⟩ | ⟨n1, rfl⟩
        · rcases hsp with ⟨_, rfl⟩ | ⟨h, _⟩
          · refine ⟨tagAt g p imm, i, a, p, p1, m, b, it, rfl, hm0, okm, hb, upd_same, tag_same, hI.mv (S := fun _ => False) mv0 (fun z => z), fun g' H' p' mv np' hm' hp' => ?_⟩
            exact k g' H' p' as ((mv0 (S := Any4)).trans (mv.mono ls_any)) (mv0 (S := Any4) |>.free np') (hL0.put ea mv hm') hp'
          · exact absurd rfl h
        · rcases hsp with ⟨h, _⟩ | ⟨_, fn, hsp, hfn⟩
          · exact absurd h n1
          · have hx2 : xr.length = nargs n - 1 := by
              have h : xr.length + 1 = nargs n := hx
              omega
            rcases hsp with rfl | rfl
            · refine ⟨tagAt g p imm, i, a, p, m, b, xr, rfl, hm0, okm, hb, hx2, .of upd_same, tag_same, fun g' H' p' mv np' hm' hp' => ?_⟩
              rw [hfn] at hm' hp'
              exact k g' H' p' as ((mv0 (S := Any4)).trans (mv.mono ls_any)) (mv0 (S := Any4) |>.free np') (hL0.put ea mv hm') hp'
            · refine ⟨tagAt g p imm, i, a, p, m, b, xr, rfl, hm0, okm, hb, hx2, .of upd_same, tag_same, by rw [hfn]; exact hres, fun g' H' p' mv np' hm' hp' => ?_⟩
              rw [hfn] at hm' hp'
              exact k g' H' p' as ((mv0 (S := Any4)).trans (mv.mono ls_any)) (mv0 (S := Any4) |>.free np') (hL0.put ea mv hm') hp'
end
end W170

namespace W170
open Vbtwad
/-! ### sorted lists -/
theorem sorted_ext : ∀ {l m : List Nat}, l.Pairwise (· < ·) → m.Pairwise (· < ·) → (∀ a, a ∈ l ↔ a ∈ m) → l = m
  | [], [], _, _, _ => rfl
  | [], b :: m, _, _, h => absurd ((h b).mpr (.head _)) (by simp)
  | a :: l, [], _, _, h => absurd ((h a).mp (.head _)) (by simp)
  | a :: l, b :: m, hl, hm, h => by
    obtain ⟨l1, l2⟩ := List.pairwise_cons.mp hl
    obtain ⟨m1, m2⟩ := List.pairwise_cons.mp hm
    have e : a = b := by
      have h1 := (h a).mp (.head _)
      have h2 := (h b).mpr (.head _)
      rcases List.mem_cons.mp h1 with q | q
      · exact q
      · rcases List.mem_cons.mp h2 with q2 | q2
        · exact q2.symm
        · have := m1 a q
          have := l1 b q2
          omega
    subst e
    congr 1
    refine sorted_ext l2 m2 fun x => ⟨fun hx => ?_, fun hx => ?_⟩
    · have := l1 x hx
      rcases List.mem_cons.mp ((h x).mp (.tail _ hx)) with q | q
      · omega
      · exact q
    · have := m1 x hx
      rcases List.mem_cons.mp ((h x).mpr (.tail _ hx)) with q | q
      · omega
      · exact q
def insN (r : List Nat) (a : Nat) : List Nat := (r.filter fun b => decide (b < a)) ++ (a :: r.filter fun b => decide (a < b))
theorem insN_ok {r : List Nat} (a : Nat) (h : r.Pairwise (· < ·)) : (insN r a).Pairwise (· < ·) ∧ ∀ x, x ∈ insN r a ↔ x = a ∨ x ∈ r := by
  unfold insN
  refine ⟨?_, fun x => ?_⟩
  · rw [List.pairwise_append]
    refine ⟨h.filter _, List.pairwise_cons.mpr ⟨fun x hx => of_decide_eq_true (List.mem_filter.mp hx).2, h.filter _⟩, fun x hx y hy => ?_⟩
    have h1 := of_decide_eq_true (List.mem_filter.mp hx).2
    rcases List.mem_cons.mp hy with q | q
    · omega
    · have := of_decide_eq_true (List.mem_filter.mp q).2
      omega
  · rw [List.mem_append, List.mem_cons, List.mem_filter, List.mem_filter, decide_eq_true_eq, decide_eq_true_eq]
    constructor
    · rintro (⟨h1, _⟩ | h1 | ⟨h1, _⟩)
      · exact .inr h1
      · exact .inl h1
      · exact .inr h1
    · rintro (h1 | h1)
      · exact .inr (.inl h1)
      · rcases Nat.lt_trichotomy x a with q | q | q
        · exact .inl ⟨h1, q⟩
        · exact .inr (.inl q)
        · exact .inr (.inr ⟨h1, q⟩)
theorem foldN_ok : ∀ (l : List Nat) {r : List Nat}, r.Pairwise (· < ·) → (l.foldl insN r).Pairwise (· < ·) ∧ ∀ x, x ∈ l.foldl insN r ↔ x ∈ l ∨ x ∈ r
  | [], r, h => ⟨h, fun x => by simp⟩
  | a :: l, r, h => by
    obtain ⟨h1, h2⟩ := insN_ok a h
    obtain ⟨h3, h4⟩ := foldN_ok l h1
    refine ⟨h3, fun x => ?_⟩
    rw [List.foldl_cons, h4, h2, List.mem_cons]
    constructor
    · rintro (q | q | q)
      · exact .inl (.inr q)
      · exact .inl (.inl q)
      · exact .inr q
    · rintro ((q | q) | q)
      · exact .inr (.inl q)
      · exact .inl q
      · exact .inr (.inr q)
theorem find_mem {l : List (Nat × Item)} {n : Nat} : (l.find? fun y => y.1 == n).isSome = true ↔ n ∈ l.map fun y => y.1 := by
  rw [List.find?_isSome, List.mem_map]
  constructor
  · rintro ⟨x, h1, h2⟩
    exact ⟨x, h1, eq_of_beq h2⟩
  · rintro ⟨x, h1, h2⟩
    exact ⟨x, h1, by rw [h2]; exact beq_self_eq_true n⟩
theorem recv_list {r : Rc} {l : Link} (R : RRc r l) : ((l.buffered.map fun y => y.1).foldl (fun r a => (r.filter fun b => decide (b < a)) ++ (a :: r.filter fun b => decide (a < b))) []) = r.open_ l.parameters.window := by
  show (l.buffered.map fun y => y.1).foldl insN [] = _
  obtain ⟨h1, h2⟩ := foldN_ok (l.buffered.map fun y => y.1) (r := []) List.Pairwise.nil
  unfold Rc.open_
  refine sorted_ext h1 ?_ fun a => ?_
  · refine List.Pairwise.filter _ ?_
    rw [List.pairwise_map]
    exact List.pairwise_lt_range.imp fun h => Nat.add_lt_add_left h _
  · rw [h2, ← find_mem, R.buf a, List.mem_filter, List.mem_map]
    constructor
    · rintro (q | q)
      · by_cases c : r.x ≤ a
        · rw [if_pos c, Option.isSome_map] at q
          exact ⟨⟨a - r.x, List.mem_range.mpr (by have := R.bnd a q; omega), by omega⟩, q⟩
        · rw [if_neg c] at q
          cases q
      · cases q
    · rintro ⟨⟨i, hi, rfl⟩, q⟩
      rw [if_pos (by omega), Option.isSome_map]
      exact .inl q
/-! ### the receiver's own invariants -/
structure RcI (ord : Bool) (r : Rc) : Prop where
  below : ∀ n, n < r.x → (r.rcv n).isSome = true
  here : r.rcv r.x = none
  dord : ord = true → r.del.map (fun y => y.1) = List.range r.x
  dun : ord = false → ∀ n, n ∈ r.del.map (fun y => y.1) ↔ (r.rcv n).isSome = true
theorem pass_inv (ord : Bool) : ∀ (f : Nat) (r : Rc), (∀ n, (r.rcv n).isSome = true → n < r.x + f) → (∀ n, n < r.x → (r.rcv n).isSome = true) → (ord = true → r.del.map (fun y => y.1) = List.range r.x) → (ord = false → ∀ n, n ∈ r.del.map (fun y => y.1) ↔ (r.rcv n).isSome = true) → RcI ord (Rc.pass ord f r)
  | 0, r, hb, h1, h2, h3 => ⟨h1, by
      show r.rcv r.x = none
      cases q : r.rcv r.x with
      | none => rfl
      | some it =>
        have := hb r.x (by rw [q]; rfl)
        omega, h2, h3⟩
  | f + 1, r, hb, h1, h2, h3 => by
    unfold Rc.pass
    cases q : r.rcv r.x with
    | none => exact ⟨h1, q, h2, h3⟩
    | some it =>
      refine pass_inv ord f { r with x := r.x + 1, del := if ord = true then r.del ++ [(r.x, it)] else r.del } (fun n h => ?_) (fun n h => ?_) (fun h => ?_) (fun h => ?_)
      · have := hb n h
        show n < r.x + 1 + f
        omega
      · have h' : n < r.x + 1 := h
        rcases Nat.lt_or_ge n r.x with c | c
        · exact h1 n c
        · obtain rfl : n = r.x := by omega
          show (r.rcv r.x).isSome = true
          rw [q]
          rfl
      · show (if ord = true then r.del ++ [(r.x, it)] else r.del).map (fun y => y.1) = List.range (r.x + 1)
        rw [if_pos h, List.map_append, h2 h, List.range_succ]
        rfl
      · show ∀ n, n ∈ (if ord = true then r.del ++ [(r.x, it)] else r.del).map (fun y => y.1) ↔ (r.rcv n).isSome = true
        rw [if_neg (by rw [h]; exact Bool.false_ne_true)]
        exact h3 h
theorem frame_inv {W M : Nat} {ord : Bool} {r : Rc} (I : RcI ord r) (hb : ∀ n, (r.rcv n).isSome = true → n < r.x + W) (fs : List Int) (ok : Bool) : RcI ord (frameStep W M ord r fs ok).1 := by
  unfold frameStep
  split
  · exact I
  · unfold Rc.recv
    split
    · exact I
    · rename_i n e
      obtain ⟨e1, e2, _⟩ := numMeant_some e
      split
      · exact I
      · rename_i c
        refine pass_inv ord W _ (fun m h => ?_) (fun m h => ?_) (fun h => ?_) (fun h m => ?_)
        · have h' : (setO r.rcv n (fs.drop 1) m).isSome = true := h
          unfold setO at h'
          show m < r.x + W
          by_cases z : m = n
          · omega
          · rw [if_neg z] at h'
            exact hb m h'
        · show (setO r.rcv n (fs.drop 1) m).isSome = true
          unfold setO
          split
          · rfl
          · exact I.below m h
        · show (if ord = true then r.del else r.del ++ [(n, fs.drop 1)]).map (fun y => y.1) = List.range r.x
          rw [if_pos h]
          exact I.dord h
        · show m ∈ (if ord = true then r.del else r.del ++ [(n, fs.drop 1)]).map (fun y => y.1) ↔ (setO r.rcv n (fs.drop 1) m).isSome = true
          rw [if_neg (by rw [h]; exact Bool.false_ne_true), List.map_append, List.mem_append, I.dun h m]
          unfold setO
          by_cases z : m = n
          · rw [if_pos z]
            exact ⟨fun _ => rfl, fun _ => .inr (by rw [z]; exact .head _)⟩
          · rw [if_neg z]
            constructor
            · rintro (q | q)
              · exact q
              · rcases List.mem_cons.mp q with q | q
                · exact absurd q z
                · cases q
            · exact .inl
theorem delivered_eq {ord : Bool} {r : Rc} {l : Link} (R : RRc r l) (I : RcI ord r) (a : Nat) : isDelivered l a = if ord = true then decide (a < r.x) else (r.rcv a).isSome := by
  have e : isDelivered l a = true ↔ a ∈ r.del.map fun y => y.1 := by
    unfold isDelivered
    rw [R.del, List.any_eq_true, List.mem_map]
    exact ⟨fun ⟨x, h1, h2⟩ => ⟨x, h1, eq_of_beq h2⟩, fun ⟨x, h1, h2⟩ => ⟨x, h1, by rw [h2]; exact beq_self_eq_true a⟩⟩
  cases ho : ord with
  | true =>
    rw [if_pos rfl]
    rw [I.dord ho, List.mem_range] at e
    by_cases c : a < r.x
    · rw [decide_eq_true c]
      exact e.mpr c
    · rw [decide_eq_false c]
      rw [Bool.eq_false_iff]
      exact fun h => c (e.mp h)
  | false =>
    rw [if_neg Bool.false_ne_true]
    rw [I.dun ho a] at e
    cases q : (r.rcv a).isSome with
    | true => exact e.mpr q
    | false =>
      rw [Bool.eq_false_iff]
      exact fun h => by
        rw [e.mp h] at q
        cases q
end W170

namespace W170
open Vbtwad
/-! ### the calls on the mirror and on the specification's link -/
structure Iv (m : Lk) (l : Link) (b : Nat) : Prop where
  rl : RL m l
  ok : LkOk m b
  free : m.sn.acked m.sn.base = false
  full : m.sn.room m.W = 0
  items : ∀ it ∈ m.sn.items, isItemB it = true
  fl : 1 ≤ m.fr.life
  al : 1 ≤ m.ac.life
  ri : RcI m.ord m.rc
def Sim (b : Nat) (x : Lk × List Int) (y : Link × List Int) : Prop := Iv x.1 y.1 (b + 50000) ∧ x.2 = y.2
theorem Iv.more {m : Lk} {l : Link} {b b' : Nat} (i : Iv m l b) (h : b ≤ b') : Iv m l b' := ⟨i.rl, i.ok.more h, i.free, i.full, i.items, i.fl, i.al, i.ri⟩
theorem Iv.same {m : Lk} {l : Link} {b : Nat} (i : Iv m l b) (r : List Int) : Sim b (m, r) (l, r) := ⟨i.more (by omega), rfl⟩
theorem RSn.same {s : Sn} {l l' : Link} (R : RSn s l) (h1 : l'.items = l.items) (h2 : l'.base = l.base) (h3 : l'.openItems = l.openItems) (h4 : l'.queue = l.queue) (h5 : l'.parameters = l.parameters) : RSn s l' :=
  ⟨by rw [h1]; exact R.items, by rw [h2]; exact R.base, R.le, by rw [h3]; exact R.opn, by rw [h4]; exact R.queue, R.nextle, R.ackin, R.dropin, by rw [h5]; exact R.win⟩
theorem RRc.same {r : Rc} {l l' : Link} (R : RRc r l) (h1 : l'.firstMissing = l.firstMissing) (h2 : l'.buffered = l.buffered) (h3 : l'.delivered = l.delivered) (h4 : l'.parameters = l.parameters) : RRc r l' :=
  ⟨by rw [h1]; exact R.x, by rw [h2]; exact R.buf, by rw [h3]; exact R.del, by rw [h4]; exact R.bnd⟩
section
variable {m : Lk} {l : Link} {b : Nat}
theorem RL.w (R : RL m l) : l.parameters.window = m.W := by rw [R.par]
theorem RL.md (R : RL m l) : l.parameters.modulus = m.M := by rw [R.par]
theorem RL.o (R : RL m l) : l.parameters.ordered = m.ord := by rw [R.par]
theorem RL.sf (R : RL m l) : RSF m.W m.M m.sn m.fr l := ⟨R.w, R.md, R.sn, R.fr⟩
/-! #### packets -/
theorem pk_at {c : Ch} {life sent : Nat} {ps : List Packet} (R : RCh c life ps sent) (k : Int) :
    (inB k c.pk.length = false → packetAt ps k = none) ∧ (inB k c.pk.length = true → 0 ≤ k ∧ ∃ p q, packetAt ps k = some p ∧ c.pk[k.toNat]? = some q ∧ pkS p = pkM q) := by
  have hl : ps.length = c.pk.length := by
    have := congrArg List.length R.pk
    rw [List.length_map, List.length_map] at this
    exact this
  refine ⟨fun h => ?_, fun h => ?_⟩
  · unfold packetAt
    by_cases c0 : k < 0
    · rw [if_pos c0]
    · rw [if_neg c0]
      refine List.getElem?_eq_none ?_
      unfold inB at h
      rcases Bool.and_eq_false_iff.mp h with h | h
      · have := of_decide_eq_false h
        omega
      · have := of_decide_eq_false h
        omega
  · obtain ⟨h1, h2⟩ := Bool.and_eq_true_iff.mp h
    have g1 := of_decide_eq_true h1
    have g2 := of_decide_eq_true h2
    refine ⟨g1, ?_⟩
    unfold packetAt
    rw [if_neg (by omega)]
    have e1 : ps[k.toNat]? = some (ps[k.toNat]'(by omega)) := List.getElem?_eq_getElem _
    have e2 : c.pk[k.toNat]? = some (c.pk[k.toNat]'(by omega)) := List.getElem?_eq_getElem _
    refine ⟨_, _, e1, e2, ?_⟩
    have e := congrArg (fun t : List (List Int × Int × Nat) => t[k.toNat]?) R.pk
    rw [List.getElem?_map, List.getElem?_map, e1, e2] at e
    exact Option.some.inj e
theorem RCh.erase {c : Ch} {life sent : Nat} {ps : List Packet} (R : RCh c life ps sent) (n : Nat) : RCh (c.erase n) life (ps.eraseIdx n) sent :=
  ⟨R.life, R.sent, by
    show (ps.eraseIdx n).map pkS = (c.pk.eraseIdx n).map pkM
    rw [← erase_map, ← erase_map, R.pk]⟩
theorem cor_eq {p : Packet} {q : Pk} (h : pkS p = pkM q) {i : Nat} (hi : i ≤ q.fs.length) (z : Int) : pkS (corrupted p i z) = pkM (q.cor i z) := by
  have e1 : p.fields = q.fs := congrArg (fun t => t.1) h
  have e2 : p.checksum = q.ck := congrArg (fun t => t.2.1) h
  have e3 : p.serial = q.ser + 1 := congrArg (fun t => t.2.2) h
  unfold corrupted Pk.cor
  rw [e1]
  by_cases c : i = q.fs.length
  · rw [if_neg (by omega), if_pos c]
    show (q.fs, z, p.serial) = (q.fs, z, q.ser + 1)
    rw [e3]
  · rw [if_pos (by omega), if_neg c]
    show (q.fs.set i z, p.checksum, p.serial) = (q.fs.set i z, q.ck, q.ser + 1)
    rw [e2, e3]
theorem RCh.set {c : Ch} {life sent : Nat} {ps : List Packet} (R : RCh c life ps sent) (n : Nat) {p : Packet} {q : Pk} (h : pkS p = pkM q) : RCh { c with pk := c.pk.set n q } life (ps.set n p) sent :=
  ⟨R.life, R.sent, by
    show (ps.set n p).map pkS = (c.pk.set n q).map pkM
    rw [List.map_set, List.map_set, R.pk, h]⟩
theorem intact_eq {p : Packet} {q : Pk} (h : pkS p = pkM q) : isIntact p = decide (q.ck = checksumOf q.fs) := by
  have e1 : p.fields = q.fs := congrArg (fun t => t.1) h
  have e2 : p.checksum = q.ck := congrArg (fun t => t.2.1) h
  unfold isIntact
  rw [e1, e2]
  by_cases c : q.ck = checksumOf q.fs
  · rw [decide_eq_true c, c]
    exact beq_self_eq_true _
  · rw [decide_eq_false c]
    exact beq_eq_false_iff_ne.mpr fun e => c e.symm
theorem list_eq {c : Ch} {life sent : Nat} {ps : List Packet} (R : RCh c life ps sent) : pkList c = packetsResult ps := by
  have hl : ps.length = c.pk.length := by
    have := congrArg List.length R.pk
    rw [List.length_map, List.length_map] at this
    exact this
  unfold pkList packetsResult
  rw [hl]
  congr 1
  have : ∀ (ps : List Packet) (ks : List Pk), ps.map pkS = ks.map pkM → ks.flatMap pkRow = ps.flatMap fun f => listResult (f.fields ++ [f.checksum]) := by
    intro ps
    induction ps with
    | nil =>
      intro ks h
      cases ks with
      | nil => rfl
      | cons k ks => simp at h
    | cons p ps ih =>
      intro ks h
      cases ks with
      | nil => simp at h
      | cons k ks =>
        have h' : pkS p :: ps.map pkS = pkM k :: ks.map pkM := h
        obtain ⟨h1, h2⟩ := List.cons.inj h'
        have e1 : p.fields = k.fs := congrArg (fun t => t.1) h1
        have e2 : p.checksum = k.ck := congrArg (fun t => t.2.1) h1
        rw [List.flatMap_cons, List.flatMap_cons, ih ks h2]
        congr 1
        unfold pkRow listResult
        rw [e1, e2, List.length_append]
        rfl
  exact this ps c.pk R.pk
/-! #### calls on the channels alone -/
theorem Iv.fr (i : Iv m l b) {c : Ch} {ps : List Packet} (R : RCh c l.parameters.frameLifetime ps l.framesSent) (o : ChOk c) : Iv { m with fr := c } { l with frames := ps } b :=
  ⟨⟨by rw [R.life]; show l.parameters = _; rw [i.rl.par], i.rl.safe, R, i.rl.ac, i.rl.sn.same rfl rfl rfl rfl rfl, i.rl.rc.same rfl rfl rfl rfl⟩, ⟨o, i.ok.ac, i.ok.sn, i.ok.rc, i.ok.w1, i.ok.w8, i.ok.m0, i.ok.bnd⟩, i.free, i.full, i.items, by show 1 ≤ c.life; rw [R.life, ← i.rl.fr.life]; exact i.fl, i.al, i.ri⟩
theorem Iv.ac (i : Iv m l b) {c : Ch} {ps : List Packet} (R : RCh c l.parameters.ackLifetime ps l.acksSent) (o : ChOk c) : Iv { m with ac := c } { l with acks := ps } b :=
  ⟨⟨by rw [R.life]; show l.parameters = _; rw [i.rl.par], i.rl.safe, i.rl.fr, R, i.rl.sn.same rfl rfl rfl rfl rfl, i.rl.rc.same rfl rfl rfl rfl⟩, ⟨i.ok.fr, o, i.ok.sn, i.ok.rc, i.ok.w1, i.ok.w8, i.ok.m0, i.ok.bnd⟩, i.free, i.full, i.items, i.fl, by show 1 ≤ c.life; rw [R.life, ← i.rl.ac.life]; exact i.al, i.ri⟩
theorem s_loseF (i : Iv m l b) (k : Int) : Sim b (mLoseF m k) (match packetAt l.frames k with
    | none => (l, [-5])
    | some _ => ({ l with frames := l.frames.eraseIdx k.toNat }, [0])) := by
  obtain ⟨h0, h1⟩ := pk_at i.rl.fr k
  unfold mLoseF Ch.loseOp
  by_cases e : inB k m.fr.pk.length = true
  · obtain ⟨_, p, q, e1, _, _⟩ := h1 e
    rw [e1, if_pos e]
    exact ⟨(i.fr (i.rl.fr.erase k.toNat) (i.ok.fr.erase k.toNat)).more (by omega), rfl⟩
  · rw [h0 (by rw [Bool.not_eq_true] at e; exact e), if_neg e]
    exact i.same _
theorem s_loseA (i : Iv m l b) (k : Int) : Sim b (mLoseA m k) (match packetAt l.acks k with
    | none => (l, [-5])
    | some _ => ({ l with acks := l.acks.eraseIdx k.toNat }, [0])) := by
  obtain ⟨h0, h1⟩ := pk_at i.rl.ac k
  unfold mLoseA Ch.loseOp
  by_cases e : inB k m.ac.pk.length = true
  · obtain ⟨_, p, q, e1, _, _⟩ := h1 e
    rw [e1, if_pos e]
    exact ⟨(i.ac (i.rl.ac.erase k.toNat) (i.ok.ac.erase k.toNat)).more (by omega), rfl⟩
  · rw [h0 (by rw [Bool.not_eq_true] at e; exact e), if_neg e]
    exact i.same _
theorem can_eq {p : Packet} {q : Pk} (h : pkS p = pkM q) (i z : Int) : canCorrupt p i z = canCor q i z := by
  have e1 : p.fields = q.fs := congrArg (fun t => t.1) h
  unfold canCorrupt canCor isBetween
  rw [e1]
theorem s_corF (i : Iv m l b) (k j z : Int) : Sim b (mCorF m k j z) (match packetAt l.frames k with
    | none => (l, [-5])
    | some f => if canCorrupt f j z = false then (l, [-1]) else ({ l with frames := l.frames.set k.toNat (corrupted f j.toNat z) }, [0])) := by
  obtain ⟨h0, h1⟩ := pk_at i.rl.fr k
  unfold mCorF Ch.corOp
  by_cases e : inB k m.fr.pk.length = true
  · obtain ⟨_, p, q, e1, e2, e3⟩ := h1 e
    rw [e1, if_pos e, e2]
    dsimp only
    rw [can_eq e3]
    cases c : canCor q j z with
    | false =>
      rw [if_pos rfl, if_neg Bool.false_ne_true]
      exact i.same _
    | true =>
      rw [if_pos rfl, if_neg (fun h => Bool.noConfusion h)]
      have hj : j.toNat ≤ q.fs.length := by
        have := of_decide_eq_true (Bool.and_eq_true_iff.mp (Bool.and_eq_true_iff.mp c).1).2
        omega
      exact ⟨(i.fr (i.rl.fr.set k.toNat (cor_eq e3 hj z)) (i.ok.fr.set e2 _ _)).more (by omega), rfl⟩
  · rw [h0 (by rw [Bool.not_eq_true] at e; exact e), if_neg e]
    exact i.same _
theorem s_corA (i : Iv m l b) (k j z : Int) : Sim b (mCorA m k j z) (match packetAt l.acks k with
    | none => (l, [-5])
    | some f => if canCorrupt f j z = false then (l, [-1]) else ({ l with acks := l.acks.set k.toNat (corrupted f j.toNat z) }, [0])) := by
  obtain ⟨h0, h1⟩ := pk_at i.rl.ac k
  unfold mCorA Ch.corOp
  by_cases e : inB k m.ac.pk.length = true
  · obtain ⟨_, p, q, e1, e2, e3⟩ := h1 e
    rw [e1, if_pos e, e2]
    dsimp only
    rw [can_eq e3]
    cases c : canCor q j z with
    | false =>
      rw [if_pos rfl, if_neg Bool.false_ne_true]
      exact i.same _
    | true =>
      rw [if_pos rfl, if_neg (fun h => Bool.noConfusion h)]
      have hj : j.toNat ≤ q.fs.length := by
        have := of_decide_eq_true (Bool.and_eq_true_iff.mp (Bool.and_eq_true_iff.mp c).1).2
        omega
      exact ⟨(i.ac (i.rl.ac.set k.toNat (cor_eq e3 hj z)) (i.ok.ac.set e2 _ _)).more (by omega), rfl⟩
  · rw [h0 (by rw [Bool.not_eq_true] at e; exact e), if_neg e]
    exact i.same _
theorem s_listF (i : Iv m l b) : Sim b (mListF m) (l, packetsResult l.frames) := ⟨i.more (by omega), list_eq i.rl.fr⟩
theorem s_sendA (i : Iv m l b) : Sim b (mSendA m) (sendAck l, listResult (ackFields l)) := by
  have ea : ackFields l = m.rc.ack m.W m.M := by
    rw [ack_eq i.rl.rc, i.rl.w, i.rl.md]
  have R := sendAck_fr i.rl.rc i.rl.ac
  rw [i.rl.w, i.rl.md] at R
  have al := ack_len m.rc (M := m.M) i.ok.w1 i.ok.w8
  refine ⟨⟨⟨?_, i.rl.safe, i.rl.fr, R, i.rl.sn.same rfl rfl rfl rfl rfl, i.rl.rc.same rfl rfl rfl rfl⟩, ⟨i.ok.fr, i.ok.ac.send al, i.ok.sn, i.ok.rc.more (by omega), i.ok.w1, i.ok.w8, i.ok.m0, i.ok.bnd⟩, i.free, i.full, i.items, i.fl, i.al, i.ri⟩, ?_⟩
  · show l.parameters = _
    rw [i.rl.par]
    rfl
  · show ((m.rc.ack m.W m.M).length : Int) :: m.rc.ack m.W m.M = listResult (ackFields l)
    rw [ea]
    rfl
/-! #### send_item, retransmit -/
theorem await_eq (i : Iv m l b) (a : Int) : (decide (0 ≤ a) && canRetransmit l a.toNat) = m.sn.awaits a := by
  have S := i.rl.sn
  have hle := S.le
  unfold canRetransmit Sn.awaits Sn.inW
  by_cases c : (m.sn.base : Int) ≤ a
  · have c' : m.sn.base ≤ a.toNat := by omega
    rw [decide_eq_true c, decide_eq_true (show 0 ≤ a by omega), S.base, decide_eq_true c', S.opn, Bool.true_and, Bool.true_and, Bool.true_and, List.getElem?_map]
    by_cases d : a < (m.sn.next : Int)
    · rw [decide_eq_true d, List.getElem?_range (by omega)]
      show (!(m.sn.acked (m.sn.base + (a.toNat - m.sn.base)))) = (true && !(m.sn.acked a.toNat))
      rw [show m.sn.base + (a.toNat - m.sn.base) = a.toNat by omega]
      rfl
    · rw [decide_eq_false d, List.getElem?_eq_none (by rw [List.length_range]; omega)]
      rfl
  · rw [decide_eq_false c, S.base]
    by_cases d : 0 ≤ a
    · rw [decide_eq_false (show ¬ m.sn.base ≤ a.toNat by omega)]
      simp
    · rw [decide_eq_false d]
      rfl
theorem Iv.send (i : Iv m l b) (a : Nat) {it : Item} (h : m.sn.content a = it) : Iv { m with fr := m.fr.send (m.sn.frame m.M a) } (sendFrame l a it) b := by
  have R : RCh (m.fr.send (m.sn.frame m.M a)) (sendFrame l a it).parameters.frameLifetime (sendFrame l a it).frames (sendFrame l a it).framesSent := send_fr i.rl.fr a it (by
    unfold Sn.frame
    rw [h, i.rl.md])
  refine ⟨⟨?_, i.rl.safe, R, i.rl.ac, i.rl.sn.same rfl rfl rfl rfl rfl, i.rl.rc.same rfl rfl rfl rfl⟩, ⟨i.ok.fr.send (frame_len i.ok.sn m.M a), i.ok.ac, i.ok.sn, i.ok.rc, i.ok.w1, i.ok.w8, i.ok.m0, i.ok.bnd⟩, i.free, i.full, i.items, i.fl, i.al, i.ri⟩
  show l.parameters = _
  rw [i.rl.par]
  rfl
theorem open_at (i : Iv m l b) {a : Nat} (h : m.sn.base ≤ a ∧ a < m.sn.next) : l.openItems[a - l.base]? = some ⟨m.sn.content a, m.sn.acked a⟩ := by
  have S := i.rl.sn
  rw [S.opn, S.base, List.getElem?_map, List.getElem?_range (by omega)]
  show some (⟨m.sn.content (m.sn.base + (a - m.sn.base)), m.sn.acked (m.sn.base + (a - m.sn.base))⟩ : OpenItem) = _
  rw [show m.sn.base + (a - m.sn.base) = a by omega]
theorem content_nil (i : Iv m l b) {a : Nat} (h : a < m.sn.next) : (m.sn.content a = []) ↔ m.sn.dropped a = true := by
  have := i.ok.sn.nx
  unfold Sn.content
  by_cases c : m.sn.dropped a = true
  · rw [if_pos c]
    exact ⟨fun _ => c, fun _ => rfl⟩
  · rw [if_neg c]
    refine ⟨fun e => ?_, fun e => absurd e c⟩
    have hm : m.sn.items.getD a [] ∈ m.sn.items := by
      rw [List.getD_eq_getElem?_getD, List.getElem?_eq_getElem (by omega)]
      exact List.getElem_mem _
    have := (i.ok.sn.len _ hm).1
    rw [e] at this
    exact absurd this (by decide)
theorem s_retr (i : Iv m l b) (a : Int) : Sim b (mRetr m a) (if (decide (0 ≤ a) && canRetransmit l a.toNat) = false then (l, [-6]) else
    (sendFrame l a.toNat (((l.openItems[a.toNat - l.base]?).map fun o => o.item).getD []), toInts [boolNumber ((((l.openItems[a.toNat - l.base]?).map fun o => o.item).getD []) != [])])) := by
  rw [await_eq i]
  unfold mRetr
  cases c : m.sn.awaits a with
  | false =>
    rw [if_pos rfl, if_pos rfl]
    exact i.same _
  | true =>
    rw [if_neg (show ¬ (true = false) from fun h => Bool.noConfusion h), if_neg (show ¬ (true = false) from fun h => Bool.noConfusion h)]
    have hw := (Bool.and_eq_true_iff.mp c).1
    have h1 := of_decide_eq_true (Bool.and_eq_true_iff.mp hw).1
    have h2 := of_decide_eq_true (Bool.and_eq_true_iff.mp hw).2
    have hr : m.sn.base ≤ a.toNat ∧ a.toNat < m.sn.next := by omega
    rw [open_at i hr]
    refine ⟨(i.send a.toNat rfl).more (by omega), ?_⟩
    show [if m.sn.dropped a.toNat = true then (0 : Int) else 1] = [((boolNumber (m.sn.content a.toNat != []) : Nat) : Int)]
    by_cases d : m.sn.dropped a.toNat = true
    · rw [if_pos d, (content_nil i hr.2).mpr d]
      rfl
    · rw [if_neg d]
      have ne : (m.sn.content a.toNat != []) = true := bne_iff_ne.mpr fun e => d ((content_nil i hr.2).mp e)
      rw [ne]
      rfl
theorem fill_full (W M : Nat) (s : Sn) (c : Ch) : (s.fill W M c).1.room W = 0 := by
  have h := (fillN_fr M (s.room W) s c).1
  show (Sn.fillN M (s.room W) s c).1.room W = 0
  rw [h]
  unfold Sn.room
  show min (s.base + W) s.items.length - (s.next + (min (s.base + W) s.items.length - s.next)) = 0
  omega
end
end W170

namespace W170
open Vbtwad
section
variable {m : Lk} {l : Link} {b : Nat}
theorem Iv.sf (i : Iv m l b) {s : Sn} {c : Ch} {l' : Link} (R : RSF m.W m.M s c l') (O : SFOnly l l') (o : SnOk s) (oc : ChOk c) (lf : c.life = m.fr.life) (fr : s.acked s.base = false) (fu : s.room m.W = 0) (hi : ∀ it ∈ s.items, isItemB it = true) : Iv { m with sn := s, fr := c } l' b := by
  have ep : l'.parameters = l.parameters := O.par
  have i0 := i.rl.ac
  have i1 := i.rl.safe
  refine ⟨⟨?_, ?_, R.fr, ?_, R.sn, i.rl.rc.same O.x O.buf O.del O.par⟩, ⟨oc, i.ok.ac, o, i.ok.rc, i.ok.w1, i.ok.w8, i.ok.m0, i.ok.bnd⟩, fr, fu, hi, by show 1 ≤ c.life; rw [lf]; exact i.fl, i.al, i.ri⟩
  · rw [ep, i.rl.par, ← lf]
  · rw [ep]
    exact i1
  · show RCh m.ac l'.parameters.ackLifetime l'.acks l'.acksSent
    rw [ep, O.acks, O.acksSent]
    exact i0
theorem add_sn (i : Iv m l b) (it : List Int) : RSn { m.sn with items := m.sn.items ++ [it] } { l with items := l.items ++ [it], queue := l.queue ++ [it] } := by
  have S := i.rl.sn
  have hn := S.nextle
  refine ⟨?_, S.base, S.le, ?_, ?_, ?_, S.ackin, S.dropin, S.win⟩
  · show l.items ++ [it] = m.sn.items ++ [it]
    rw [S.items]
  · show l.openItems = _
    rw [S.opn]
    refine List.map_congr_left fun j hj => ?_
    have hj' := List.mem_range.mp hj
    have e : m.sn.content (m.sn.base + j) = Sn.content { m.sn with items := m.sn.items ++ [it] } (m.sn.base + j) := by
      unfold Sn.content
      show (if m.sn.dropped (m.sn.base + j) = true then [] else m.sn.items.getD (m.sn.base + j) []) = if m.sn.dropped (m.sn.base + j) = true then [] else (m.sn.items ++ [it]).getD (m.sn.base + j) []
      rw [List.getD_eq_getElem?_getD, List.getD_eq_getElem?_getD, List.getElem?_append_left (by omega)]
    rw [e]
  · show l.queue ++ [it] = (m.sn.items ++ [it]).drop m.sn.next
    rw [S.queue, List.drop_append_of_le_length hn]
  · show m.sn.next ≤ (m.sn.items ++ [it]).length
    rw [List.length_append]
    omega
theorem fill_free {W M : Nat} {s : Sn} {c : Ch} (h : s.acked s.base = false) : (s.fill W M c).1.acked (s.fill W M c).1.base = false := by
  have e : (s.fill W M c).1 = { s with next := s.next + s.room W } := (fillN_fr M (s.room W) s c).1
  rw [e]
  exact h
theorem fill_base (W M : Nat) (s : Sn) (c : Ch) : (s.fill W M c).1.base = s.base := by
  have e : (s.fill W M c).1 = { s with next := s.next + s.room W } := (fillN_fr M (s.room W) s c).1
  rw [e]
theorem fill_items (W M : Nat) (s : Sn) (c : Ch) : (s.fill W M c).1.items = s.items := by
  have e : (s.fill W M c).1 = { s with next := s.next + s.room W } := (fillN_fr M (s.room W) s c).1
  rw [e]
theorem s_send (i : Iv m l b) (it : List Int) : Sim b (mSend m it) (if (parseItem it).isNone = true then (l, [-3]) else if maxItems ≤ l.items.length then (l, [-8]) else
    (enqueueItem l it, toInts [l.items.length, boolNumber ((enqueueItem l it).framesSent != l.framesSent)])) := by
  unfold mSend
  have ei := item_eq it
  by_cases c : (parseItem it).isNone = true
  · rw [c] at ei
    rw [if_pos c, if_pos (show isItemB it = false from ei)]
    exact i.same _
  · rw [Bool.not_eq_true] at c
    rw [c] at ei
    rw [if_neg (show ¬ (isItemB it = false) by rw [ei]; exact fun h => Bool.noConfusion h), if_neg (show ¬ ((parseItem it).isNone = true) by rw [c]; exact Bool.false_ne_true)]
    rw [i.rl.sn.items]
    by_cases d : 120 ≤ m.sn.items.length
    · rw [if_pos d, if_pos (show maxItems ≤ _ from d)]
      exact i.same _
    · rw [if_neg d, if_neg (show ¬ maxItems ≤ _ from d)]
      dsimp only
      have R1 : RSF m.W m.M { m.sn with items := m.sn.items ++ [it] } m.fr { l with items := l.items ++ [it], queue := l.queue ++ [it] } := ⟨i.rl.w, i.rl.md, add_sn i it, i.rl.fr⟩
      have hf := i.full
      have hr : Sn.room m.W { m.sn with items := m.sn.items ++ [it] } ≤ 1 := by
        unfold Sn.room at hf ⊢
        show min (m.sn.base + m.W) (m.sn.items ++ [it]).length - m.sn.next ≤ 1
        rw [List.length_append]
        show min (m.sn.base + m.W) (m.sn.items.length + 1) - m.sn.next ≤ 1
        omega
      have R2 := fill_sim (Sn.room m.W { m.sn with items := m.sn.items ++ [it] }) 1 R1 rfl hr
      have O2 : SFOnly l (enqueueItem l it) := SFOnly.trans (b := { l with items := l.items ++ [it], queue := l.queue ++ [it] }) ⟨rfl, rfl, rfl, rfl, rfl, rfl⟩ (fill_only 1 _)
      have ok1 := ok_items i.ok.sn (item_len ei) (by omega)
      obtain ⟨ok2, okc⟩ := fill_okk m.W m.M ok1 i.ok.fr
      obtain ⟨f1, f2, f3⟩ := fillN_fr m.M (Sn.room m.W { m.sn with items := m.sn.items ++ [it] }) { m.sn with items := m.sn.items ++ [it] } m.fr
      have hi2 : ∀ x ∈ (Sn.fill m.W m.M { m.sn with items := m.sn.items ++ [it] } m.fr).1.items, isItemB x = true := fun x hx => by
        rw [fill_items] at hx
        rcases List.mem_append.mp hx with q | q
        · exact i.items x q
        · rw [List.mem_singleton.mp q]
          exact ei
      refine ⟨(i.sf R2 O2 ok2 okc f3 (fill_free i.free) (fill_full _ _ _ _) hi2).more (by omega), ?_⟩
      have es : (enqueueItem l it).framesSent = l.framesSent + Sn.room m.W { m.sn with items := m.sn.items ++ [it] } := by
        rw [← i.rl.fr.sent, ← f2]
        exact R2.fr.sent.symm
      rw [es]
      generalize Sn.room m.W { m.sn with items := m.sn.items ++ [it] } = k at hr
      show [(m.sn.items.length : Int), (k : Int)] = [(m.sn.items.length : Int), ((boolNumber (l.framesSent + k != l.framesSent) : Nat) : Int)]
      match k, hr with
      | 0, _ =>
        rw [show (l.framesSent + 0 != l.framesSent) = false from bne_self_eq_false _]
        rfl
      | 1, _ =>
        rw [show (l.framesSent + 1 != l.framesSent) = true from bne_iff_ne.mpr (by omega)]
        rfl
theorem adv_free : ∀ (k : Nat) (s : Sn), k = s.next - s.base → (∀ n, s.acked n = true → n < s.next) → (Sn.adv k s).acked (Sn.adv k s).base = false
  | 0, s, hk, ha => by
    show s.acked s.base = false
    cases c : s.acked s.base with
    | false => rfl
    | true =>
      have := ha _ c
      omega
  | k + 1, s, hk, ha => by
    unfold Sn.adv
    by_cases c : s.acked s.base = true
    · rw [if_pos c]
      exact adv_free k { s with base := s.base + 1 } (by show k = s.next - (s.base + 1); omega) ha
    · rw [if_neg c]
      rw [Bool.not_eq_true] at c
      exact c
theorem fill_none {W M : Nat} {s : Sn} {c : Ch} (h : s.room W = 0) : s.fill W M c = (s, c) := by
  unfold Sn.fill
  rw [h]
  rfl
theorem ackStep_eq {W M : Nat} {s : Sn} {c : Ch} (fs : List Int) (ok : Bool) (h : s.acked s.base = false) (r : s.room W = 0) :
    ackStep W M s c fs ok = ((Sn.adv ((s.recvA M fs ok).1.next - (s.recvA M fs ok).1.base) (s.recvA M fs ok).1).fill W M c, (s.recvA M fs ok).2) := by
  unfold ackStep Sn.recvA
  cases ok with
  | false =>
    rw [if_pos rfl, if_pos rfl]
    dsimp only
    rw [adv_none s _ h, fill_none r]
  | true =>
    rw [if_neg (fun h => Bool.noConfusion h), if_neg (fun h => Bool.noConfusion h)]
theorem refuse_eq {c : Ch} {life sent : Nat} {ps : List Packet} (R : RCh c life ps sent) (k st : Int) :
    (isBetween st 0 1 = false ∧ refuse c k st = [-1]) ∨ (isBetween st 0 1 = true ∧ (st = 0 ∨ st = 1) ∧ ((packetAt ps k = none ∧ refuse c k st = [-5]) ∨ (refuse c k st = [] ∧ ∃ p q, packetAt ps k = some p ∧ c.pk[k.toNat]? = some q ∧ pkS p = pkM q))) := by
  unfold refuse isBetween
  by_cases c0 : st < 0 ∨ 1 < st
  · refine .inl ⟨?_, if_pos c0⟩
    rcases c0 with c0 | c0
    · rw [decide_eq_false (by omega), Bool.false_and]
    · rw [decide_eq_false (show ¬ st ≤ 1 by omega), Bool.and_false]
  · refine .inr ⟨by rw [decide_eq_true (show 0 ≤ st by omega), decide_eq_true (show st ≤ 1 by omega)]; rfl, by omega, ?_⟩
    rw [if_neg c0]
    obtain ⟨h0, h1⟩ := pk_at R k
    cases e : inB k c.pk.length with
    | false => exact .inl ⟨h0 e, if_neg Bool.false_ne_true⟩
    | true => exact .inr ⟨if_pos rfl, (h1 e).2⟩
theorem rem_eq {c : Ch} {life sent : Nat} {ps : List Packet} (R : RCh c life ps sent) (o : ChOk c) {st : Int} (h : st = 0 ∨ st = 1) (n : Nat) :
    RCh (if st = 0 then c.erase n else c) life (removePacket n (st == 1) ps) sent ∧ ChOk (if st = 0 then c.erase n else c) := by
  rcases h with rfl | rfl
  · exact ⟨R.erase n, o.erase n⟩
  · exact ⟨R, o⟩
theorem s_delA (i : Iv m l b) (k st : Int) : Sim b (mDelA m k st) (if isBetween st 0 1 = false then (l, [-1]) else match packetAt l.acks k with
    | none => (l, [-5])
    | some f => ((receiveAck { l with acks := removePacket k.toNat (st == 1) l.acks } f).1, toInts [(receiveAck { l with acks := removePacket k.toNat (st == 1) l.acks } f).2, (receiveAck { l with acks := removePacket k.toNat (st == 1) l.acks } f).1.base, (receiveAck { l with acks := removePacket k.toNat (st == 1) l.acks } f).1.framesSent - l.framesSent])) := by
  unfold mDelA
  rcases refuse_eq i.rl.ac k st with ⟨h1, h2⟩ | ⟨h1, hst, h2⟩
  · rw [h1, h2, if_pos rfl]
    exact i.same _
  · rw [h1, if_neg (fun h => Bool.noConfusion h)]
    rcases h2 with ⟨h2, h3⟩ | ⟨h2, p, q, h3, h4, h5⟩
    · rw [h2, h3]
      exact i.same _
    · rw [h2, h3, h4]
      dsimp only
      obtain ⟨RA, oA⟩ := rem_eq i.rl.ac i.ok.ac hst k.toNat
      have i0 := i.ac RA oA
      generalize (if st = 0 then m.ac.erase k.toNat else m.ac) = ca at i0 ⊢
      have S := recvAck_sim (M := m.M) i0.rl.sf p i.free i.full
      have ef : p.fields = q.fs := congrArg (fun t => t.1) h5
      have ei := intact_eq h5
      rw [ef, ei] at S
      obtain ⟨R1, R2, R3⟩ := S
      have e0 := ackStep_eq (M := m.M) (c := m.fr) q.fs (decide (q.ck = checksumOf q.fs)) i.free i.full
      have R1' : RSF m.W m.M (ackStep m.W m.M m.sn m.fr q.fs (decide (q.ck = checksumOf q.fs))).1.1 (ackStep m.W m.M m.sn m.fr q.fs (decide (q.ck = checksumOf q.fs))).1.2 (receiveAck { l with acks := removePacket k.toNat (st == 1) l.acks } p).1 := R1
      have R2' : (receiveAck { l with acks := removePacket k.toNat (st == 1) l.acks } p).2 = (ackStep m.W m.M m.sn m.fr q.fs (decide (q.ck = checksumOf q.fs))).2 := R2
      rw [e0] at R1' R2'
      obtain ⟨o1, _, _, it1⟩ := recvA_ok i.ok.sn m.M q.fs (decide (q.ck = checksumOf q.fs))
      generalize m.sn.recvA m.M q.fs (decide (q.ck = checksumOf q.fs)) = s1 at R1' R2' o1 it1 ⊢
      have fr2 := adv_free (s1.1.next - s1.1.base) s1.1 rfl o1.ackin
      have o2 := adv_ok o1 (s1.1.next - s1.1.base)
      have it2 : (Sn.adv (s1.1.next - s1.1.base) s1.1).items = s1.1.items := by rw [(adv_same (s1.1.next - s1.1.base) s1.1 o1.ackin o1.le).2.2]
      generalize Sn.adv (s1.1.next - s1.1.base) s1.1 = s2 at R1' R2' fr2 o2 it2 ⊢
      obtain ⟨o3, oc3⟩ := fill_okk m.W m.M o2 i.ok.fr
      obtain ⟨f1, f2, f3⟩ := fillN_fr m.M (s2.room m.W) s2 m.fr
      refine ⟨(Iv.sf i0 R1' R3 o3 oc3 f3 (fill_free fr2) (fill_full _ _ _ _) (fun x hx => by rw [fill_items, it2, it1] at hx; exact i.items x hx)).more (by omega), ?_⟩
      have es : (receiveAck { l with acks := removePacket k.toNat (st == 1) l.acks } p).1.framesSent = l.framesSent + s2.room m.W := by
        exact (R1'.fr.sent.symm.trans f2).trans (by rw [i.rl.fr.sent])
      have eb : (receiveAck { l with acks := removePacket k.toNat (st == 1) l.acks } p).1.base = (s2.fill m.W m.M m.fr).1.base := R1'.sn.base
      rw [es, eb, R2', Nat.add_sub_cancel_left]
      rfl
theorem Iv.rc (i : Iv m l b) {r : Rc} {l' : Link} {b' : Nat} (R : RRc r l') (O : RcOnly l l') (o : RcOk r b') (hb : b ≤ b') (ri : RcI m.ord r) : Iv { m with rc := r } l' b' := by
  have ep : l'.parameters = l.parameters := O.par
  refine ⟨⟨?_, ?_, ?_, ?_, i.rl.sn.same O.items O.base O.opn O.queue O.par, R⟩, ⟨i.ok.fr, i.ok.ac, i.ok.sn, o, i.ok.w1, i.ok.w8, i.ok.m0, fun n h => ?_⟩, i.free, i.full, i.items, i.fl, i.al, ri⟩
  · rw [ep, i.rl.par]
  · rw [ep]
    exact i.rl.safe
  · rw [ep, O.frames, O.framesSent]
    exact i.rl.fr
  · rw [ep, O.acks, O.acksSent]
    exact i.rl.ac
  · have := R.bnd n h
    rw [ep, i.rl.w] at this
    exact this
theorem s_delF (i : Iv m l b) (k st : Int) : Sim b (mDelF m k st) (if isBetween st 0 1 = false then (l, [-1]) else match packetAt l.frames k with
    | none => (l, [-5])
    | some f => ((receiveFrame { l with frames := removePacket k.toNat (st == 1) l.frames } f).1, toInts [(receiveFrame { l with frames := removePacket k.toNat (st == 1) l.frames } f).2, (receiveFrame { l with frames := removePacket k.toNat (st == 1) l.frames } f).1.delivered.length - l.delivered.length])) := by
  unfold mDelF
  rcases refuse_eq i.rl.fr k st with ⟨h1, h2⟩ | ⟨h1, hst, h2⟩
  · rw [h1, h2, if_pos rfl]
    exact i.same _
  · rw [h1, if_neg (fun h => Bool.noConfusion h)]
    rcases h2 with ⟨h2, h3⟩ | ⟨h2, p, q, h3, h4, h5⟩
    · rw [h2, h3]
      exact i.same _
    · rw [h2, h3, h4]
      dsimp only
      obtain ⟨RA, oA⟩ := rem_eq i.rl.fr i.ok.fr hst k.toNat
      have i0 := i.fr RA oA
      generalize (if st = 0 then m.fr.erase k.toNat else m.fr) = ca at i0 ⊢
      have S := recvFrame_sim i0.rl.rc p
      have ef : p.fields = q.fs := congrArg (fun t => t.1) h5
      have ei := intact_eq h5
      rw [ef, ei, i0.rl.w, i0.rl.md, i0.rl.o] at S
      obtain ⟨R1, R2, R3⟩ := S
      have R1' : RRc (frameStep m.W m.M m.ord m.rc q.fs (decide (q.ck = checksumOf q.fs))).1 (receiveFrame { l with frames := removePacket k.toNat (st == 1) l.frames } p).1 := R1
      have R2' : (receiveFrame { l with frames := removePacket k.toNat (st == 1) l.frames } p).2 = (frameStep m.W m.M m.ord m.rc q.fs (decide (q.ck = checksumOf q.fs))).2 := R2
      obtain ⟨o1, d1⟩ := frame_ok (M := m.M) (ord := m.ord) i.ok.rc i.ok.w8 q.fs (decide (q.ck = checksumOf q.fs))
      have ri1 := frame_inv (M := m.M) (W := m.W) i.ri i.ok.bnd q.fs (decide (q.ck = checksumOf q.fs))
      generalize frameStep m.W m.M m.ord m.rc q.fs (decide (q.ck = checksumOf q.fs)) = r at R1' R2' o1 d1 ri1 ⊢
      refine ⟨(Iv.rc i0 R1' R3 o1 (by omega) ri1).more (by omega), ?_⟩
      rw [R2', R1'.del, i.rl.rc.del]
      show [(r.2 : Int), (r.1.del.length : Int) - (m.rc.del.length : Int)] = [(r.2 : Int), ((r.1.del.length - m.rc.del.length : Nat) : Int)]
      rw [show ((r.1.del.length - m.rc.del.length : Nat) : Int) = (r.1.del.length : Int) - (m.rc.del.length : Int) by omega]
end
end W170

namespace W170
open Vbtwad
/-! ### all links -/
structure SR (ms : List Lk) (ss : List Link) (b : Nat) : Prop where
  len : ms.length = ss.length
  at_ : ∀ (i : Nat) m l, ms[i]? = some m → ss[i]? = some l → Iv m l b
def SimS (b : Nat) (x : List Lk × List Int) (y : State × List Int) : Prop := SR x.1 y.1 (b + 50000) ∧ x.2 = y.2
section
variable {ms : List Lk} {ss : List Link} {b : Nat}
theorem SR.more {b' : Nat} (R : SR ms ss b) (h : b ≤ b') : SR ms ss b' := ⟨R.len, fun i m l h1 h2 => (R.at_ i m l h1 h2).more h⟩
theorem SR.fail (R : SR ms ss b) (k : Int) : SimS b (ms, [k]) (fail ss k) := ⟨R.more (by omega), rfl⟩
theorem SR.oks (R : SR ms ss b) : ∀ m ∈ ms, LkAll m b := fun m h => by
  obtain ⟨i, lt, e⟩ := List.mem_iff_getElem.mp h
  have e1 : ms[i]? = some m := by rw [List.getElem?_eq_getElem lt, e]
  have e2 : ss[i]? = some (ss[i]'(by rw [← R.len]; exact lt)) := List.getElem?_eq_getElem _
  have I := R.at_ i m _ e1 e2
  exact ⟨I.ok, I.fl, I.al, I.items⟩
theorem link_sim (R : SR ms ss b) (z : Int) {f : Lk → Lk × List Int} {g : Link → Link × List Int} (h : ∀ m l, Iv m l b → Sim b (f m) (g l)) : SimS b (mLink ms z f) (withLink ss z g) := by
  unfold mLink withLink linkAt
  by_cases c : z < 0
  · rw [if_pos c, if_pos c]
    exact R.fail _
  · rw [if_neg c, if_neg c]
    cases e1 : ms[z.toNat]? with
    | none =>
      have e2 : ss[z.toNat]? = none := List.getElem?_eq_none (by rw [← R.len]; exact List.getElem?_eq_none_iff.mp e1)
      rw [e2]
      exact R.fail _
    | some m =>
      have lt := (List.getElem?_eq_some_iff.mp e1).1
      have e2 : ss[z.toNat]? = some (ss[z.toNat]'(by rw [← R.len]; exact lt)) := List.getElem?_eq_getElem _
      generalize ss[z.toNat]'(by rw [← R.len]; exact lt) = l at e2
      rw [e2]
      obtain ⟨h1, h2⟩ := h m l (R.at_ _ m l e1 e2)
      refine ⟨⟨?_, fun i m' l' g1 g2 => ?_⟩, h2⟩
      · show (ms.set _ _).length = (ss.set _ _).length
        rw [List.length_set, List.length_set, R.len]
      · have g1' : (ms.set z.toNat (f m).1)[i]? = some m' := g1
        have g2' : (ss.set z.toNat (g l).1)[i]? = some l' := g2
        by_cases d : z.toNat = i
        · subst d
          rw [List.getElem?_set_self lt] at g1'
          rw [List.getElem?_set_self (by rw [← R.len]; exact lt)] at g2'
          have a1 := Option.some.inj g1'
          have a2 := Option.some.inj g2'
          subst a1
          subst a2
          exact h1
        · rw [List.getElem?_set_ne d] at g1'
          rw [List.getElem?_set_ne d] at g2'
          exact (R.at_ i m' l' g1' g2').more (by omega)
theorem par_eq (w m k r o : Int) : parseParameters w m k r o = if rangeB w m k r o = true then some ⟨w.toNat, m.toNat, k.toNat, r.toNat, o == 1⟩ else none := rfl
theorem safe_eq (W M K R : Nat) (ord : Bool) (h1 : 1 ≤ W) : safeB W M K R = (missingCondition ⟨W, M, K, R, ord⟩ == 0) := by
  unfold safeB missingCondition
  dsimp only
  have e : ((R : Int) * (W : Int)) = ((R * W : Nat) : Int) := (Int.natCast_mul R W).symm
  rw [e]
  generalize R * W = n
  by_cases c : M + 1 < 2 * W + K
  · rw [if_pos c, decide_eq_false (by omega), Bool.false_and]
    rfl
  · rw [if_neg c, decide_eq_true (by omega), Bool.true_and]
    by_cases d : M ≤ n
    · rw [if_pos d, decide_eq_false (by omega)]
      rfl
    · rw [if_neg d, decide_eq_true (by omega)]
      rfl
theorem new_iv {W M K R : Nat} (h1 : 1 ≤ W) (h8 : W ≤ 8) (hm : 0 < M) (hk : K ≤ 20) (hr : R ≤ 20) (hk1 : 1 ≤ K) (hr1 : 1 ≤ R) (ord : Bool) (b : Nat) : Iv (newLk W M K R ord) (initialLink ⟨W, M, K, R, ord⟩) b := by
  refine ⟨⟨rfl, safe_eq W M K R ord h1, ⟨rfl, rfl, rfl⟩, ⟨rfl, rfl, rfl⟩, ⟨rfl, rfl, Nat.le_refl _, rfl, rfl, Nat.le_refl _, fun n h => (Bool.noConfusion h), fun n h => (Bool.noConfusion h), Nat.zero_le _⟩, ⟨rfl, fun n => ?_, rfl, fun n h => (Bool.noConfusion h)⟩⟩,
    ⟨⟨List.Pairwise.nil, fun k h => (by cases h), fun k h => (by cases h), fun k h => (by cases h), hk⟩, ⟨List.Pairwise.nil, fun k h => (by cases h), fun k h => (by cases h), fun k h => (by cases h), hr⟩, ⟨fun k h => (by cases h), Nat.zero_le _, Nat.le_refl _, Nat.le_refl _, fun n h => (Bool.noConfusion h)⟩, ⟨Nat.zero_le _, Nat.zero_le _, Nat.zero_le _⟩, h1, h8, hm, fun n h => (Bool.noConfusion h)⟩, rfl, ?_, fun k h => (by cases h), hk1, hr1, ⟨fun n h => absurd h (Nat.not_lt_zero n), rfl, fun _ => rfl, fun _ n => ⟨fun h => (by cases h), fun h => (Bool.noConfusion h)⟩⟩⟩
  · show none = if 0 ≤ n then none else none
    rw [if_pos (Nat.zero_le n)]
  · show min (0 + W) 0 - 0 = 0
    omega
theorem new_sim (R : SR ms ss b) (w m k r o : Int) : SimS b (nLink ms [w, m, k, r, o]) (step ss (.newLink w m k r o)) := by
  rw [nLink_five]
  show SimS b _ (match parseParameters w m k r o with
    | none => fail ss (-1)
    | some x => if maxLinks ≤ ss.length then fail ss (-8) else (ss ++ [initialLink x], toInts [ss.length, boolNumber (missingCondition x == 0)]))
  rw [par_eq]
  cases e : rangeB w m k r o with
  | false =>
    rw [if_pos rfl, if_neg Bool.false_ne_true]
    exact R.fail _
  | true =>
    rw [if_neg (show ¬ (true = false) from fun h => Bool.noConfusion h), if_pos rfl]
    dsimp only
    rw [← R.len]
    by_cases c : 4 ≤ ms.length
    · rw [if_pos c, if_pos (show maxLinks ≤ _ from c)]
      exact R.fail _
    · rw [if_neg c, if_neg (show ¬ maxLinks ≤ _ from c)]
      unfold rangeB at e
      simp only [Bool.and_eq_true, decide_eq_true_eq] at e
      obtain ⟨⟨a1, a2⟩, ⟨a3, a4⟩, ⟨a5, a6⟩, ⟨a7, a8⟩, a9, a10⟩ := e
      have eo : (o == 1) = decide (o = 1) := rfl
      rw [eo]
      have I := new_iv (W := w.toNat) (M := m.toNat) (K := k.toNat) (R := r.toNat) (by omega) (by omega) (by omega) (by omega) (by omega) (by omega) (by omega) (decide (o = 1)) (b + 50000)
      refine ⟨⟨?_, fun i m' l' g1 g2 => ?_⟩, ?_⟩
      · show (ms ++ [_]).length = (ss ++ [_]).length
        rw [List.length_append, List.length_append, R.len]
        rfl
      · have g1' : (ms ++ [newLk w.toNat m.toNat k.toNat r.toNat (decide (o = 1))])[i]? = some m' := g1
        have g2' : (ss ++ [initialLink ⟨w.toNat, m.toNat, k.toNat, r.toNat, decide (o = 1)⟩])[i]? = some l' := g2
        rcases Nat.lt_or_ge i ms.length with lt | ge
        · rw [List.getElem?_append_left lt] at g1'
          rw [List.getElem?_append_left (by rw [← R.len]; exact lt)] at g2'
          exact (R.at_ i m' l' g1' g2').more (by omega)
        · have ei : i = ms.length := by
            have := (List.getElem?_eq_some_iff.mp g1').1
            rw [List.length_append] at this
            have e1 : [newLk w.toNat m.toNat k.toNat r.toNat (decide (o = 1))].length = 1 := rfl
            omega
          subst ei
          rw [List.getElem?_append_right (Nat.le_refl _), Nat.sub_self] at g1'
          rw [List.getElem?_append_right (by rw [R.len]; exact Nat.le_refl _), ← R.len, Nat.sub_self] at g2'
          have a1 := Option.some.inj g1'
          have a2 := Option.some.inj g2'
          rw [← a1, ← a2]
          exact I
      · show [(ms.length : Int), if (newLk w.toNat m.toNat k.toNat r.toNat (decide (o = 1))).safe = true then 1 else 0] = [(ms.length : Int), ((boolNumber (missingCondition ⟨w.toNat, m.toNat, k.toNat, r.toNat, decide (o = 1)⟩ == 0) : Nat) : Int)]
        have es : (newLk w.toNat m.toNat k.toNat r.toNat (decide (o = 1))).safe = (missingCondition ⟨w.toNat, m.toNat, k.toNat, r.toNat, decide (o = 1)⟩ == 0) := safe_eq _ _ _ _ _ (by omega)
        rw [es]
        cases (missingCondition ⟨w.toNat, m.toNat, k.toNat, r.toNat, decide (o = 1)⟩ == 0) <;> rfl
theorem new_len (R : SR ms ss b) (w m k r o : Int) (h : ms.length ≤ 4) : (nLink ms [w, m, k, r, o]).1.length ≤ 4 := by
  rw [nLink_five]
  split
  · exact h
  · split
    · exact h
    · show (ms ++ [_]).length ≤ 4
      rw [List.length_append]
      show ms.length + 1 ≤ 4
      omega
theorem link_len (z : Int) (f : Lk → Lk × List Int) (h : ms.length ≤ 4) : (mLink ms z f).1.length ≤ 4 := by
  unfold mLink
  split
  · exact h
  · split
    · exact h
    · show (ms.set _ _).length ≤ 4
      rw [List.length_set]
      exact h
end
end W170

namespace W170
open Vbtwad
/-! ### dropping below a time -/
section
variable {m : Lk} {l : Link} {b : Nat}
theorem below_eq (i : Iv m l b) (t : Nat) {n : Nat} (h1 : m.sn.base ≤ n) (h2 : n < m.sn.next) : isBelowTime t (m.sn.content n) = below t m.sn n := by
  unfold isBelowTime below
  rw [decide_eq_true h1, decide_eq_true h2, Bool.true_and, Bool.true_and]
  cases d : m.sn.dropped n with
  | true =>
    have e : m.sn.content n = [] := (content_nil i h2).mpr d
    rw [e]
    rfl
  | false =>
    have ne : m.sn.content n ≠ [] := fun e => by
      rw [(content_nil i h2).mp e] at d
      cases d
    have e : m.sn.content n = m.sn.items.getD n [] := by
      unfold Sn.content
      rw [d, if_neg Bool.false_ne_true]
    rw [show (m.sn.content n != []) = true from bne_iff_ne.mpr ne, e]
    rfl
theorem drop_sim (i : Iv m l b) (t : Nat) : Iv { m with sn := m.sn.drop t } (dropContents t l) b ∧ droppableCount t l = m.sn.dropCnt t := by
  have S := i.rl.sn
  refine ⟨⟨⟨i.rl.par, i.rl.safe, i.rl.fr, i.rl.ac, ⟨S.items, S.base, S.le, ?_, S.queue, S.nextle, S.ackin, fun n h => ?_, S.win⟩, i.rl.rc.same rfl rfl rfl rfl⟩, ⟨i.ok.fr, i.ok.ac, ⟨i.ok.sn.len, i.ok.sn.few, i.ok.sn.le, i.ok.sn.nx, i.ok.sn.ackin⟩, i.ok.rc, i.ok.w1, i.ok.w8, i.ok.m0, i.ok.bnd⟩, i.free, i.full, i.items, i.fl, i.al, i.ri⟩, ?_⟩
  · show l.openItems.map _ = _
    rw [S.opn, List.map_map]
    refine List.map_congr_left fun j hj => ?_
    have hj' := List.mem_range.mp hj
    have e := below_eq i t (n := m.sn.base + j) (by omega) (by omega)
    show (if isBelowTime t (m.sn.content (m.sn.base + j)) = true then (⟨[], m.sn.acked (m.sn.base + j)⟩ : OpenItem) else ⟨m.sn.content (m.sn.base + j), m.sn.acked (m.sn.base + j)⟩) = ⟨(m.sn.drop t).content (m.sn.base + j), m.sn.acked (m.sn.base + j)⟩
    rw [e]
    have ec : (m.sn.drop t).content (m.sn.base + j) = if (m.sn.dropped (m.sn.base + j) || below t m.sn (m.sn.base + j)) = true then [] else m.sn.items.getD (m.sn.base + j) [] := rfl
    rw [ec]
    unfold Sn.content
    by_cases c : below t m.sn (m.sn.base + j) = true
    · rw [if_pos c, c, Bool.or_true, if_pos rfl]
    · rw [if_neg c, Bool.eq_false_iff.mpr c, Bool.or_false]
  · have h' : (m.sn.dropped n || below t m.sn n) = true := h
    rcases Bool.or_eq_true_iff.mp h' with h | h
    · exact S.dropin n h
    · exact of_decide_eq_true (Bool.and_eq_true_iff.mp (Bool.and_eq_true_iff.mp h).1).2
  · unfold droppableCount Sn.dropCnt
    rw [S.opn, List.filter_map, List.length_map]
    congr 1
    refine List.filter_congr fun j hj => ?_
    have hj' := List.mem_range.mp hj
    exact below_eq i t (n := m.sn.base + j) (by omega) (by omega)
/-! ### recovery -/
theorem RCh.pop {c : Ch} {life sent : Nat} {ps : List Packet} (R : RCh c life ps sent) : RCh c.pop life ps.dropLast sent :=
  ⟨R.life, R.sent, by
    show ps.dropLast.map pkS = c.pk.dropLast.map pkM
    rw [List.map_dropLast, List.map_dropLast, R.pk]⟩
theorem send_last {life now : Nat} (ps : List Packet) (p : Packet) (h : p.serial = now) (hl : 1 ≤ life) : (dropExpired life now (ps ++ [p])).getLast? = some p := by
  unfold dropExpired
  rw [List.filter_append]
  have e : [p].filter (fun f => decide (now < f.serial + life)) = [p] := by
    rw [List.filter_cons, if_pos (decide_eq_true (by omega))]
    rfl
  rw [e, List.getLast?_append]
  rfl
theorem again_sim (i : Iv m l b) {a : Nat} (h1 : m.sn.base ≤ a) (h2 : a < m.sn.next) (ha : m.sn.acked a = false) : Iv (m.again a) (retransmit l a) (b + 9) := by
  have eo := open_at i ⟨h1, h2⟩
  unfold retransmit
  rw [eo]
  dsimp only
  have eb : (decide (a < l.base) || decide (m.sn.acked a = true)) = false := by
    rw [ha, i.rl.sn.base, decide_eq_false (by omega)]
    rfl
  rw [eb, if_neg Bool.false_ne_true]
  have i1 := i.send a (it := m.sn.content a) rfl
  have fl : 1 ≤ l.parameters.frameLifetime := by
    rw [← i.rl.fr.life]
    exact i.fl
  have el : (sendFrame l a (m.sn.content a)).frames.getLast? = some ⟨((a % l.parameters.modulus : Nat) : Int) :: m.sn.content a, checksumOf (((a % l.parameters.modulus : Nat) : Int) :: m.sn.content a), ((a % l.parameters.modulus : Nat) : Int) :: m.sn.content a, a, l.framesSent + 1⟩ := send_last _ _ rfl fl
  rw [el]
  dsimp only
  have hp : isIntact (⟨((a % l.parameters.modulus : Nat) : Int) :: m.sn.content a, checksumOf (((a % l.parameters.modulus : Nat) : Int) :: m.sn.content a), ((a % l.parameters.modulus : Nat) : Int) :: m.sn.content a, a, l.framesSent + 1⟩ : Packet) = true := beq_self_eq_true _
  have ef : (((a % l.parameters.modulus : Nat) : Int) :: m.sn.content a) = m.sn.frame m.M a := by
    unfold Sn.frame
    rw [i.rl.md]
  generalize hpk : (⟨((a % l.parameters.modulus : Nat) : Int) :: m.sn.content a, checksumOf (((a % l.parameters.modulus : Nat) : Int) :: m.sn.content a), ((a % l.parameters.modulus : Nat) : Int) :: m.sn.content a, a, l.framesSent + 1⟩ : Packet) = p at hp
  have epf : p.fields = m.sn.frame m.M a := by
    rw [← hpk]
    exact ef
  have S := recvFrame_sim i1.rl.rc p
  rw [hp, epf, i1.rl.w, i1.rl.md, i1.rl.o] at S
  obtain ⟨R1, R2, R3⟩ := S
  obtain ⟨o1, _⟩ := frame_ok (M := m.M) (ord := m.ord) i.ok.rc i.ok.w8 (m.sn.frame m.M a) true
  have ri1 := frame_inv (M := m.M) (W := m.W) i.ri i.ok.bnd (m.sn.frame m.M a) true
  have i2 := Iv.rc i1 R1 R3 o1 (by omega) ri1
  have i3 := i2.fr (i2.rl.fr.pop) (i2.ok.fr.pop)
  exact i3
theorem again_sn (m : Lk) (a : Nat) : (m.again a).sn = m.sn ∧ (m.again a).W = m.W ∧ (m.again a).M = m.M ∧ (m.again a).ac = m.ac := ⟨rfl, rfl, rfl, rfl⟩
theorem retr_acked (i : Iv m l b) {a : Nat} (h1 : m.sn.base ≤ a) (h2 : a < m.sn.next) (ha : m.sn.acked a = true) : retransmit l a = l := by
  have eo := open_at i ⟨h1, h2⟩
  unfold retransmit
  rw [eo]
  dsimp only
  rw [decide_eq_true ha, Bool.or_true, if_pos rfl]
theorem againAll_sim : ∀ (as : List Nat) {m : Lk} {l : Link} {b : Nat}, Iv m l b → (∀ a ∈ as, m.sn.base ≤ a ∧ a < m.sn.next) → Iv (Lk.againAll as m) (as.foldl retransmit l) (b + 9 * as.length) ∧ (Lk.againAll as m).sn = m.sn
  | [], m, l, b, i, _ => ⟨i, rfl⟩
  | a :: r, m, l, b, i, h => by
    have ha := h a (.head _)
    show Iv (Lk.againAll r (if m.sn.acked a = true then m else m.again a)) (r.foldl retransmit (retransmit l a)) (b + 9 * (r.length + 1)) ∧ (Lk.againAll r (if m.sn.acked a = true then m else m.again a)).sn = m.sn
    by_cases c : m.sn.acked a = true
    · rw [if_pos c, retr_acked i ha.1 ha.2 c]
      obtain ⟨h1, h2⟩ := againAll_sim r i fun x hx => h x (.tail _ hx)
      exact ⟨h1.more (by omega), h2⟩
    · rw [if_neg c]
      obtain ⟨h1, h2⟩ := againAll_sim r (again_sim i ha.1 ha.2 (Bool.eq_false_iff.mpr c)) fun x hx => h x (.tail _ hx)
      exact ⟨h1.more (by omega), h2⟩
theorem ackNow_sim (i : Iv m l b) : ∃ f, (sendAck l).acks.getLast? = some f ∧ Iv m.ackNow (receiveAck { sendAck l with acks := (sendAck l).acks.dropLast } f).1 b := by
  have al : 1 ≤ l.parameters.ackLifetime := by
    rw [← i.rl.ac.life]
    exact i.al
  refine ⟨⟨ackFields l, checksumOf (ackFields l), ackFields l, l.firstMissing, l.acksSent + 1⟩, send_last _ _ rfl al, ?_⟩
  have ea : ackFields l = m.rc.ack m.W m.M := by
    rw [ack_eq i.rl.rc, i.rl.w, i.rl.md]
  have R := sendAck_fr i.rl.rc i.rl.ac
  rw [i.rl.w, i.rl.md] at R
  have hp : isIntact (⟨ackFields l, checksumOf (ackFields l), ackFields l, l.firstMissing, l.acksSent + 1⟩ : Packet) = true := beq_self_eq_true _
  generalize hpk : (⟨ackFields l, checksumOf (ackFields l), ackFields l, l.firstMissing, l.acksSent + 1⟩ : Packet) = p at hp
  have epf : p.fields = m.rc.ack m.W m.M := by
    rw [← hpk]
    exact ea
  have ln := ack_len m.rc (M := m.M) i.ok.w1 i.ok.w8
  have i0 : Iv { m with ac := (m.ac.send (m.rc.ack m.W m.M)).pop } { sendAck l with acks := (sendAck l).acks.dropLast } b := by
    have Rp := R.pop
    refine ⟨⟨?_, i.rl.safe, i.rl.fr, Rp, i.rl.sn.same rfl rfl rfl rfl rfl, i.rl.rc.same rfl rfl rfl rfl⟩, ⟨i.ok.fr, (i.ok.ac.send ln).pop, i.ok.sn, i.ok.rc, i.ok.w1, i.ok.w8, i.ok.m0, i.ok.bnd⟩, i.free, i.full, i.items, i.fl, i.al, i.ri⟩
    show l.parameters = _
    rw [i.rl.par]
    rfl
  have S := recvAck_sim (M := m.M) i0.rl.sf p i.free i.full
  rw [hp, epf] at S
  obtain ⟨R1, R2, R3⟩ := S
  have e0 := ackStep_eq (W := m.W) (M := m.M) (c := m.fr) (m.rc.ack m.W m.M) true i.free i.full
  have R1' : RSF m.W m.M (ackStep m.W m.M m.sn m.fr (m.rc.ack m.W m.M) true).1.1 (ackStep m.W m.M m.sn m.fr (m.rc.ack m.W m.M) true).1.2 (receiveAck { sendAck l with acks := (sendAck l).acks.dropLast } p).1 := R1
  rw [e0] at R1'
  obtain ⟨o1, _, _, it1⟩ := recvA_ok i.ok.sn m.M (m.rc.ack m.W m.M) true
  have er : m.sn.recvA m.M (m.rc.ack m.W m.M) true = m.sn.recvAck m.M (m.rc.ack m.W m.M) := if_neg (fun h => Bool.noConfusion h)
  rw [er] at R1' o1 it1
  show Iv { m with ac := (m.ac.send (m.rc.ack m.W m.M)).pop, sn := ((Sn.adv ((m.sn.recvAck m.M (m.rc.ack m.W m.M)).1.next - (m.sn.recvAck m.M (m.rc.ack m.W m.M)).1.base) (m.sn.recvAck m.M (m.rc.ack m.W m.M)).1).fill m.W m.M m.fr).1, fr := ((Sn.adv ((m.sn.recvAck m.M (m.rc.ack m.W m.M)).1.next - (m.sn.recvAck m.M (m.rc.ack m.W m.M)).1.base) (m.sn.recvAck m.M (m.rc.ack m.W m.M)).1).fill m.W m.M m.fr).2 } _ b
  generalize m.sn.recvAck m.M (m.rc.ack m.W m.M) = s1 at R1' o1 it1 ⊢
  have fr2 := adv_free (s1.1.next - s1.1.base) s1.1 rfl o1.ackin
  have o2 := adv_ok o1 (s1.1.next - s1.1.base)
  have it2 : (Sn.adv (s1.1.next - s1.1.base) s1.1).items = s1.1.items := by rw [(adv_same (s1.1.next - s1.1.base) s1.1 o1.ackin o1.le).2.2]
  generalize Sn.adv (s1.1.next - s1.1.base) s1.1 = s2 at R1' fr2 o2 it2 ⊢
  obtain ⟨o3, oc3⟩ := fill_okk m.W m.M o2 i.ok.fr
  obtain ⟨f1, f2, f3⟩ := fillN_fr m.M (s2.room m.W) s2 m.fr
  exact Iv.sf i0 R1' R3 o3 oc3 f3 (fill_free fr2) (fill_full _ _ _ _) (fun x hx => by rw [fill_items, it2, it1] at hx; exact i.items x hx)
theorem round_sim (i : Iv m l b) : Iv m.round (recoveryRound l) (b + 72) := by
  have S := i.rl.sn
  have hw : ((List.range l.openItems.length).map fun j => l.base + j) = m.window := by
    unfold Lk.window
    rw [opn_len S, S.base]
  have hlen : m.window.length ≤ 8 := by
    unfold Lk.window
    rw [List.length_map, List.length_range]
    have := S.win
    have := i.ok.w8
    rw [i.rl.w] at *
    omega
  obtain ⟨i1, _⟩ := againAll_sim m.window i fun a ha => by
    unfold Lk.window at ha
    obtain ⟨j, hj, rfl⟩ := List.mem_map.mp ha
    have := List.mem_range.mp hj
    omega
  obtain ⟨f, e1, i2⟩ := ackNow_sim (i1.more (show _ ≤ b + 72 by omega))
  unfold recoveryRound
  rw [hw]
  dsimp only
  rw [e1]
  exact i2
theorem recover_sim : ∀ (f : Nat) {m : Lk} {l : Link} {b : Nat}, Iv m l b → Iv (Lk.recover f m).1 (recover f l).1 (b + 72 * f) ∧ (Lk.recover f m).2 = (recover f l).2
  | 0, m, l, b, i => ⟨i, rfl⟩
  | f + 1, m, l, b, i => by
    have ol := opn_len i.rl.sn
    have hle := i.rl.sn.le
    unfold Lk.recover recover
    by_cases c : m.sn.next = m.sn.base
    · have e : l.openItems.isEmpty = true := by
        rw [List.isEmpty_iff]
        exact List.eq_nil_of_length_eq_zero (by omega)
      rw [if_pos c, if_pos e]
      exact ⟨i.more (by omega), rfl⟩
    · have e : ¬ l.openItems.isEmpty = true := by
        rw [List.isEmpty_iff]
        intro e
        rw [e] at ol
        have h : 0 = m.sn.next - m.sn.base := ol
        omega
      rw [if_neg c, if_neg e]
      obtain ⟨h1, h2⟩ := recover_sim f (round_sim i)
      exact ⟨h1.more (by omega), by show (Lk.recover f m.round).2 + 1 = (recover f (recoveryRound l)).2 + 1; rw [h2]⟩
end
end W170

namespace W170
open Vbtwad PySem
section
variable {m : Lk} {l : Link} {b : Nat}
/-! ### what stage 2 shows of a link -/
theorem sState_eq (i : Iv m l b) : mSState m = toInts [l.base, l.openItems.length, l.queue.length] ++ l.openItems.flatMap fun o => toInts [boolNumber o.acknowledged, boolNumber (o.item != [])] := by
  have S := i.rl.sn
  unfold mSState Lk.window
  rw [opn_len S, S.base, S.queue, List.length_drop, S.opn, List.flatMap_map, List.flatMap_map]
  show [(m.sn.base : Int), ((m.sn.next - m.sn.base : Nat) : Int), ((m.sn.items.length - m.sn.next : Nat) : Int)] ++ _ = [(m.sn.base : Int), ((m.sn.next - m.sn.base : Nat) : Int), ((m.sn.items.length - m.sn.next : Nat) : Int)] ++ _
  congr 1
  have : ∀ (js : List Nat), (∀ j ∈ js, j < m.sn.next - m.sn.base) → js.flatMap (fun j => sndRow m.sn (m.sn.base + j)) = js.flatMap fun j => toInts [boolNumber (m.sn.acked (m.sn.base + j)), boolNumber (m.sn.content (m.sn.base + j) != [])] := by
    intro js
    induction js with
    | nil => exact fun _ => rfl
    | cons j js ih =>
      intro h
      rw [List.flatMap_cons, List.flatMap_cons, ih fun x hx => h x (.tail _ hx)]
      congr 1
      have hj := h j (.head _)
      have hc := content_nil i (a := m.sn.base + j) (by omega)
      show [if m.sn.acked (m.sn.base + j) = true then (1 : Int) else 0, if m.sn.dropped (m.sn.base + j) = true then 0 else 1] = [((boolNumber (m.sn.acked (m.sn.base + j)) : Nat) : Int), ((boolNumber (m.sn.content (m.sn.base + j) != []) : Nat) : Int)]
      have e1 : (if m.sn.acked (m.sn.base + j) = true then (1 : Int) else 0) = ((boolNumber (m.sn.acked (m.sn.base + j)) : Nat) : Int) := by cases m.sn.acked (m.sn.base + j) <;> rfl
      have e2 : (if m.sn.dropped (m.sn.base + j) = true then (0 : Int) else 1) = ((boolNumber (m.sn.content (m.sn.base + j) != []) : Nat) : Int) := by
        by_cases d : m.sn.dropped (m.sn.base + j) = true
        · rw [if_pos d, hc.mpr d]
          rfl
        · rw [if_neg d, show (m.sn.content (m.sn.base + j) != []) = true from bne_iff_ne.mpr fun e => d (hc.mp e)]
          rfl
      rw [e1, e2]
  exact this _ fun j hj => List.mem_range.mp hj
theorem rState_eq (i : Iv m l b) : mRState m = (l.firstMissing : Int) :: withLength ((l.buffered.map fun y => y.1).foldl (fun r a => (r.filter fun b => decide (b < a)) ++ (a :: r.filter fun b => decide (a < b))) []) := by
  rw [recv_list i.rl.rc, i.rl.rc.x, i.rl.w]
  rfl
theorem listD_eq (i : Iv m l b) (k : Int) : (if k < 0 ∨ (l.delivered.length : Int) < k then (l, [-1]) else (l, (l.delivered.length : Int) :: (l.delivered.drop k.toNat).flatMap fun y => (y.1 : Int) :: listResult y.2)) = (l, mListD m k) := by
  unfold mListD
  rw [i.rl.rc.del]
  by_cases c : k < 0 ∨ (m.rc.del.length : Int) < k
  · rw [if_pos c, if_pos c]
  · rw [if_neg c, if_neg c]
    rfl
theorem trans1_eq (i : Iv m l b) : inTransit l = m.trans1 := by
  unfold inTransit Lk.trans1
  rw [i.rl.sn.items]
  refine List.filter_congr fun a _ => ?_
  rw [delivered_eq i.rl.rc i.ri a]
  rfl
theorem trans2_eq (i : Iv m l b) : inTransitAtSender l = m.trans2 := by
  have S := i.rl.sn
  have hle := S.le
  unfold inTransitAtSender Lk.trans2
  rw [S.items]
  refine List.filter_congr fun a _ => ?_
  unfold Lk.open2
  rw [S.base, i.rl.o]
  by_cases c : m.sn.base ≤ a
  · rw [decide_eq_true c, Bool.true_and, Bool.true_and]
    congr 2
    rw [S.opn, List.getElem?_map]
    by_cases d : a < m.sn.next
    · rw [List.getElem?_range (by omega)]
      show m.sn.acked (m.sn.base + (a - m.sn.base)) = _
      rw [show m.sn.base + (a - m.sn.base) = a by omega]
    · rw [List.getElem?_eq_none (by rw [List.length_range]; omega)]
      show false = _
      cases e : m.sn.acked a with
      | false => rfl
      | true => exact absurd (S.ackin a e) d
  · rw [decide_eq_false c]
    rfl
theorem listT_eq (i : Iv m l b) : withLength (inTransit l) ++ withLength (inTransitAtSender l) = mListT m := by
  rw [trans1_eq i, trans2_eq i]
  rfl
theorem rch_len {c : Ch} {life sent : Nat} {ps : List Packet} (R : RCh c life ps sent) : ps.length = c.pk.length := by
  have := congrArg List.length R.pk
  rw [List.length_map, List.length_map] at this
  exact this
theorem counts_eq (i : Iv m l b) : toInts [l.items.length, l.delivered.length, l.frames.length, l.acks.length, l.framesSent, l.acksSent] = mCounts m := by
  unfold mCounts
  rw [i.rl.sn.items, i.rl.rc.del, rch_len i.rl.fr, rch_len i.rl.ac, ← i.rl.fr.sent, ← i.rl.ac.sent]
  rfl
theorem times_eq (i : Iv m l b) (ns : List Nat) : (ns.map fun a => itemTime (itemAt l a)) = m.times ns := by
  unfold Lk.times itemAt
  rw [i.rl.sn.items]
end
/-! ### over all links -/
section
variable {ms : List Lk} {ss : List Link} {b : Nat}
/-- the links by pairs -/
theorem sr_paired : ∀ {ms : List Lk} {ss : List Link}, SR ms ss b → Paired (fun m l => Iv m l b) ms ss
  | [], [], _ => .nil
  | [], _ :: _, R => absurd R.len (by simp)
  | _ :: _, [], R => absurd R.len (by simp)
  | m :: ms, s :: ss, R => .cons (R.at_ 0 m s rfl rfl) (sr_paired ⟨Nat.succ.inj R.len, fun i m' l' h1 h2 => R.at_ (i + 1) m' l' h1 h2⟩)
theorem paired_sr : ∀ {ms : List Lk} {ss : List Link}, Paired (fun m l => Iv m l b) ms ss → SR ms ss b
  | [], [], _ => ⟨rfl, fun i m l h _ => (by cases h)⟩
  | m :: ms, s :: ss, .cons h t => by
    have R := paired_sr t
    refine ⟨congrArg (· + 1) R.len, fun i m' l' h1 h2 => ?_⟩
    cases i with
    | zero =>
      cases h1
      cases h2
      exact h
    | succ i => exact R.at_ i m' l' h1 h2
theorem flat_eq {β : Type} {f : Lk → List β} {g : Link → List β} (R : SR ms ss b) (h : ∀ m l, Iv m l b → f m = g l) : ms.flatMap f = ss.flatMap g := by
  have F := sr_paired R
  clear R
  induction F with
  | nil => rfl
  | cons e _ ih => rw [List.flatMap_cons, List.flatMap_cons, h _ _ e, ih]
theorem map_eq {β : Type} {f : Lk → β} {g : Link → β} (R : SR ms ss b) (h : ∀ m l, Iv m l b → f m = g l) : ms.map f = ss.map g := by
  have F := sr_paired R
  clear R
  induction F with
  | nil => rfl
  | cons e _ ih => rw [List.map_cons, List.map_cons, h _ _ e, ih]
/-- the least of some numbers -/
theorem min_none : ∀ (l : List Nat) (o : Option Nat), l.foldl (fun o t => match o with
    | none => some t
    | some s => some (min s t)) o = none ↔ l = [] ∧ o = none
  | [], o => by simp
  | a :: l, o => by
    rw [List.foldl_cons, min_none l]
    cases o <;> simp
theorem minTimes_eq (R : SR ms ss b) : optionalResult (minimumTime inTransit ss) ++ optionalResult (minimumTime inTransitAtSender ss) = mMinTimes ms := by
  unfold minimumTime mMinTimes minOf
  rw [flat_eq (f := fun m => m.times m.trans1) (g := fun l => (inTransit l).map fun a => itemTime (itemAt l a)) R fun m l i => by rw [trans1_eq i, times_eq i],
    flat_eq (f := fun m => m.times m.trans2) (g := fun l => (inTransitAtSender l).map fun a => itemTime (itemAt l a)) R fun m l i => by rw [trans2_eq i, times_eq i]]
theorem allCounts_eq (R : SR ms ss b) : (ss.length : Int) :: ss.flatMap (fun x => toInts [x.items.length, x.delivered.length, x.frames.length, x.acks.length, x.framesSent, x.acksSent]) = mAllCounts ms := by
  unfold mAllCounts
  rw [R.len, flat_eq R fun m l i => (counts_eq i).symm]
theorem drop_sr (R : SR ms ss b) (t : Nat) : SR (mDrop t ms) (ss.map (dropContents t)) b := by
  refine paired_sr ?_
  have F := sr_paired R
  clear R
  unfold mDrop
  induction F with
  | nil => exact .nil
  | cons e _ ih => exact .cons (drop_sim e t).1 ih
theorem dropCnt_eq (R : SR ms ss b) (t : Nat) : (ss.map (droppableCount t)) = ms.map fun m => m.sn.dropCnt t := (map_eq R fun m l i => ((drop_sim i t).2).symm).symm
end
end W170

namespace W170
open Vbtwad
section
variable {m : Lk} {l : Link} {b : Nat}
theorem Iv.ans (i : Iv m l b) {r r' : List Int} (h : r = r') : Sim b (m, r) (l, r') := ⟨i.more (by omega), h⟩
theorem s_listA (i : Iv m l b) : Sim b (m, pkList m.ac) (l, packetsResult l.acks) := i.ans (list_eq i.rl.ac)
theorem s_sState (i : Iv m l b) : Sim b (m, mSState m) (l, toInts [l.base, l.openItems.length, l.queue.length] ++ l.openItems.flatMap fun o => toInts [boolNumber o.acknowledged, boolNumber (o.item != [])]) := i.ans (sState_eq i)
theorem s_rState (i : Iv m l b) : Sim b (m, mRState m) (l, (l.firstMissing : Int) :: withLength ((l.buffered.map fun y => y.1).foldl (fun r a => (r.filter fun b => decide (b < a)) ++ (a :: r.filter fun b => decide (a < b))) [])) := i.ans (rState_eq i)
theorem s_listD (i : Iv m l b) (k : Int) : Sim b (m, mListD m k) (if k < 0 ∨ (l.delivered.length : Int) < k then (l, [-1]) else (l, (l.delivered.length : Int) :: (l.delivered.drop k.toNat).flatMap fun y => (y.1 : Int) :: listResult y.2)) := by
  rw [listD_eq i k]
  exact i.ans rfl
theorem s_listT (i : Iv m l b) : Sim b (m, mListT m) (l, withLength (inTransit l) ++ withLength (inTransitAtSender l)) := i.ans (listT_eq i).symm
/-! the delivered items only grow -/
theorem again_del (m : Lk) (a : Nat) : m.rc.del.length ≤ (m.again a).rc.del.length := by
  have h : (m.again a).rc = (frameStep m.W m.M m.ord m.rc (m.sn.frame m.M a) true).1 := rfl
  rw [h]
  unfold frameStep
  rw [if_neg (fun h => Bool.noConfusion h)]
  unfold Rc.recv
  split
  · exact Nat.le_refl _
  · rename_i n _
    split
    · exact Nat.le_refl _
    · obtain ⟨_, _, h3⟩ := pass_del m.ord m.W (m.rc.put m.ord n ((m.sn.frame m.M a).drop 1))
      refine Nat.le_trans ?_ h3
      show m.rc.del.length ≤ (if m.ord = true then m.rc.del else m.rc.del ++ [(n, (m.sn.frame m.M a).drop 1)]).length
      split
      · exact Nat.le_refl _
      · rw [List.length_append]
        omega
theorem againAll_del : ∀ (as : List Nat) (m : Lk), m.rc.del.length ≤ (Lk.againAll as m).rc.del.length
  | [], m => Nat.le_refl _
  | a :: r, m => by
    show _ ≤ (Lk.againAll r (if m.sn.acked a = true then m else m.again a)).rc.del.length
    refine Nat.le_trans ?_ (againAll_del r _)
    split
    · exact Nat.le_refl _
    · exact again_del m a
theorem recover_del : ∀ (f : Nat) (m : Lk), m.rc.del.length ≤ (Lk.recover f m).1.rc.del.length
  | 0, m => Nat.le_refl _
  | f + 1, m => by
    unfold Lk.recover
    split
    · exact Nat.le_refl _
    · refine Nat.le_trans ?_ (recover_del f m.round)
      exact againAll_del m.window m
theorem s_recov (i : Iv m l b) : Sim b (mRecover m) (if missingCondition l.parameters ≠ 0 then (l, [-9]) else ((recover (maxItems + 1) l).1, toInts [(recover (maxItems + 1) l).2, (recover (maxItems + 1) l).1.delivered.length - l.delivered.length])) := by
  unfold mRecover
  have es := i.rl.safe
  by_cases c : missingCondition l.parameters = 0
  · rw [c] at es
    rw [if_neg (by rw [es]; exact fun h => Bool.noConfusion h), if_neg (by rw [c]; exact fun h => h rfl)]
    obtain ⟨h1, h2⟩ := recover_sim 121 i
    refine ⟨h1.more (by omega), ?_⟩
    have hd := recover_del 121 m
    show _ = toInts [(recover 121 l).2, (recover 121 l).1.delivered.length - l.delivered.length]
    rw [← h2, h1.rl.rc.del, i.rl.rc.del]
    show [((Lk.recover 121 m).2 : Int), ((Lk.recover 121 m).1.rc.del.length : Int) - (m.rc.del.length : Int)] = [((Lk.recover 121 m).2 : Int), (((Lk.recover 121 m).1.rc.del.length - m.rc.del.length : Nat) : Int)]
    rw [show (((Lk.recover 121 m).1.rc.del.length - m.rc.del.length : Nat) : Int) = ((Lk.recover 121 m).1.rc.del.length : Int) - (m.rc.del.length : Int) by omega]
  · have es' : m.safe = false := by
      rw [es]
      exact beq_eq_false_iff_ne.mpr c
    rw [if_pos es', if_pos c]
    exact i.ans rfl
end
section
variable {ms : List Lk} {ss : List Link} {b : Nat}
theorem SR.ans (R : SR ms ss b) {r r' : List Int} (h : r = r') : SimS b (ms, r) (ss, r') := ⟨R.more (by omega), h⟩
theorem min_eq (R : SR ms ss b) : SimS b (ms, mMinTimes ms) (VbtwadNeutral.step ss [[16]]) := R.ans (minTimes_eq R).symm
theorem counts_sim (R : SR ms ss b) : SimS b (ms, mAllCounts ms) (VbtwadNeutral.step ss [[21]]) := R.ans (allCounts_eq R).symm
theorem least_eq (R : SR ms ss b) : minimumTime inTransit ss = mLeast ms := by
  unfold minimumTime mLeast
  rw [flat_eq (f := fun m => m.times m.trans1) (g := fun l => (inTransit l).map fun a => itemTime (itemAt l a)) R fun m l i => by rw [trans1_eq i, times_eq i]]
theorem dropB_sim (R : SR ms ss b) (t : Int) : SimS b (mDropB ms t) (VbtwadNeutral.step ss [[17, t]]) := by
  show SimS b _ (if isBetween t 0 1000 = false then fail ss (-1) else if ((minimumTime inTransit ss).any fun u => decide (u < t.toNat)) = true then fail ss (-7) else (ss.map (dropContents t.toNat), [(((ss.map (droppableCount t.toNat)).foldl (fun a b => a + b) 0 : Nat) : Int)]))
  unfold mDropB
  by_cases c : isBetween t 0 1000 = false
  · rw [if_pos c, if_pos c]
    exact R.fail _
  · rw [if_neg c, if_neg c, least_eq R]
    by_cases d : ((mLeast ms).any fun u => decide (u < t.toNat)) = true
    · rw [if_pos d, if_pos d]
      exact R.fail _
    · rw [if_neg d, if_neg d, dropCnt_eq R]
      exact ⟨(drop_sr R t.toNat).more (by omega), rfl⟩
theorem miss_eq (W M K R : Nat) (ord : Bool) (h1 : 1 ≤ W) : ((missingCondition ⟨W, M, K, R, ord⟩ : Nat) : Int) = missB W M K R := by
  unfold missB missingCondition
  dsimp only
  have e : ((R : Int) * (W : Int)) = ((R * W : Nat) : Int) := (Int.natCast_mul R W).symm
  rw [e]
  generalize R * W = n
  by_cases c : M + 1 < 2 * W + K
  · rw [if_pos c, if_pos (show (M : Int) < 2 * (W : Int) + (K : Int) - 1 by omega)]
    rfl
  · rw [if_neg c, if_neg (show ¬ (M : Int) < 2 * (W : Int) + (K : Int) - 1 by omega)]
    by_cases d : M ≤ n
    · rw [if_pos d, if_pos (show (M : Int) ≤ (n : Int) by omega)]
      rfl
    · rw [if_neg d, if_neg (show ¬ (M : Int) ≤ (n : Int) by omega)]
      rfl
theorem check_sim (R : SR ms ss b) (w m k r o : Int) : SimS b (ms, mCheck w m k r o) (VbtwadNeutral.step ss [[18, w, m, k, r, o]]) := by
  show SimS b _ (match parseParameters w m k r o with
    | none => fail ss (-1)
    | some x => (ss, toInts [boolNumber (missingCondition x == 0), missingCondition x]))
  rw [par_eq]
  unfold mCheck
  cases e : rangeB w m k r o with
  | false =>
    rw [if_pos rfl, if_neg Bool.false_ne_true]
    exact R.fail _
  | true =>
    rw [if_neg (show ¬ (true = false) from fun h => Bool.noConfusion h), if_pos rfl]
    dsimp only
    refine R.ans ?_
    unfold rangeB at e
    simp only [Bool.and_eq_true, decide_eq_true_eq] at e
    obtain ⟨⟨a1, a2⟩, ⟨a3, a4⟩, ⟨a5, a6⟩, ⟨a7, a8⟩, a9, a10⟩ := e
    have h1 := miss_eq w.toNat m.toNat k.toNat r.toNat (o == 1) (by omega)
    have h2 := safe_eq w.toNat m.toNat k.toNat r.toNat (o == 1) (by omega)
    rw [show ((w.toNat : Nat) : Int) = w by omega, show ((m.toNat : Nat) : Int) = m by omega, show ((k.toNat : Nat) : Int) = k by omega, show ((r.toNat : Nat) : Int) = r by omega] at h1 h2
    show _ = [((boolNumber (missingCondition ⟨w.toNat, m.toNat, k.toNat, r.toNat, o == 1⟩ == 0) : Nat) : Int), ((missingCondition ⟨w.toNat, m.toNat, k.toNat, r.toNat, o == 1⟩ : Nat) : Int)]
    rw [h1, ← h2]
    cases safeB w m k r <;> rfl
end
end W170

namespace W170
open Vbtwad
/-! ### the failure trace -/
theorem sd_rows (f W p : Nat) : (sendAndDeliver f W p).map stepResult = (List.range W).flatMap fun i => tsRows (f + i) p := by
  unfold sendAndDeliver
  rw [List.map_flatMap]
  rfl
theorem trace_rows (W M K R : Nat) (ord : Bool) (h1 : 1 ≤ W) : (failureTrace ⟨W, M, K, R, ord⟩).map stepResult = failRows W M K R := by
  have e := miss_eq W M K R ord h1
  unfold failureTrace failRows
  rw [← e]
  generalize missingCondition ⟨W, M, K, R, ord⟩ = c
  match c with
  | 0 => rfl
  | 1 =>
    rw [if_pos (show ((1 : Nat) : Int) = 1 from rfl), Int.toNat_natCast, Int.toNat_natCast]
    show List.map stepResult (sendAndDeliver 0 W 0 ++ ([.retransmit 0, .sendAck, .deliverAck 0 false] ++ ((List.range (M + 1 - 2 * W)).flatMap fun i => [.send (sampleItem (W + i)), .deliverFrame 1 false, .sendAck, .deliverAck 0 false]) ++ [.deliverFrame 0 false])) = rows1 W M
    unfold rows1
    rw [List.map_append, List.map_append, List.map_append, sd_rows, List.map_flatMap]
    have e0 : (fun i => tsRows (0 + i) 0) = fun i => tsRows i 0 := by
      funext i
      rw [Nat.zero_add]
    rw [e0, show M + 1 - 2 * W = M + 1 - W - W by omega]
    simp only [List.append_assoc]
    rfl
  | 2 =>
    rw [if_neg (show ¬ ((2 : Nat) : Int) = 1 by decide), if_pos (show ((2 : Nat) : Int) = 2 from rfl), Int.toNat_natCast, Int.toNat_natCast]
    show List.map stepResult (.sendAck :: ((List.range ((M + W - 1) / W - 1)).flatMap fun j => sendAndDeliver (j * W) W 0 ++ [.sendAck, .deliverAck 1 false]) ++ (((List.range W).map fun i => .send (sampleItem (((M + W - 1) / W - 1) * W + i))) ++ [.deliverAck 0 false])) = rows2 W M
    unfold rows2
    have e1 : ((List.range ((M + W - 1) / W - 1)).flatMap fun j => sendAndDeliver (j * W) W 0 ++ [.sendAck, .deliverAck 1 false]).map stepResult = (List.range (winC W M)).flatMap fun j => (List.range W).flatMap (fun i => tsRows (j * W + i) 0) ++ asRows 1 := by
      rw [List.map_flatMap]
      unfold winC
      congr 1
      funext j
      rw [List.map_append, sd_rows]
      rfl
    rw [List.map_append, List.map_cons, e1, List.map_append, List.map_map]
    simp only [List.append_assoc]
    rfl
  | c + 3 =>
    rw [if_neg (show ¬ ((c + 3 : Nat) : Int) = 1 by omega), if_neg (show ¬ ((c + 3 : Nat) : Int) = 2 by omega)]
    rfl
section
variable {ms : List Lk} {ss : List Link} {b : Nat}
theorem fail_sim (R : SR ms ss b) (w m k r o : Int) : SimS b (ms, mFail w m k r o) (VbtwadNeutral.step ss [[19, w, m, k, r, o]]) := by
  show SimS b _ (match parseParameters w m k r o with
    | none => fail ss (-1)
    | some x => (ss, ((failureTrace x).length : Int) :: (failureTrace x).flatMap stepResult))
  rw [par_eq]
  unfold mFail
  cases e : rangeB w m k r o with
  | false =>
    rw [if_pos rfl, if_neg Bool.false_ne_true]
    exact R.fail _
  | true =>
    rw [if_neg (show ¬ (true = false) from fun h => Bool.noConfusion h), if_pos rfl]
    dsimp only
    refine R.ans ?_
    unfold rangeB at e
    simp only [Bool.and_eq_true, decide_eq_true_eq] at e
    obtain ⟨⟨a1, a2⟩, ⟨a3, a4⟩, ⟨a5, a6⟩, ⟨a7, a8⟩, a9, a10⟩ := e
    have h1 := trace_rows w.toNat m.toNat k.toNat r.toNat (o == 1) (by omega)
    rw [show ((w.toNat : Nat) : Int) = w by omega, show ((m.toNat : Nat) : Int) = m by omega, show ((k.toNat : Nat) : Int) = k by omega, show ((r.toNat : Nat) : Int) = r by omega] at h1
    rw [← h1, List.length_map, List.flatMap_map]
theorem drop_len (t : Int) (h : ms.length ≤ 4) : (mDropB ms t).1.length ≤ 4 := by
  unfold mDropB
  split
  · exact h
  · split
    · exact h
    · show (mDrop _ ms).length ≤ 4
      unfold mDrop
      rw [List.length_map]
      exact h
/-- a call as the specification has it -/
def rowsOf (n : Int) (xs it : List Int) : List (List Int) := if n = 1 then [n :: xs, it] else [n :: xs]
theorem step_len {n : Int} {xs it : List Int} (R : SR ms ss b) (h1 : 0 ≤ n) (h2 : n ≤ 21) (hx : xs.length = nargs n) (h : ms.length ≤ 4) : (mStep ms n xs it).1.length ≤ 4 := by
  obtain ⟨j, rfl⟩ : ∃ j : Nat, n = (j : Int) := ⟨n.toNat, by omega⟩
  match j, (show j ≤ 21 by omega) with
  | 0, _ =>
    match xs, hx with
    | [w, m, k, r, o], _ => exact new_len R w m k r o h
  | 1, _ => exact link_len _ _ h
  | 2, _ => exact link_len _ _ h
  | 3, _ => exact link_len _ _ h
  | 4, _ => exact link_len _ _ h
  | 5, _ => exact link_len _ _ h
  | 6, _ => exact link_len _ _ h
  | 7, _ => exact link_len _ _ h
  | 8, _ => exact link_len _ _ h
  | 9, _ => exact link_len _ _ h
  | 10, _ => exact link_len _ _ h
  | 11, _ => exact link_len _ _ h
  | 12, _ => exact link_len _ _ h
  | 13, _ => exact link_len _ _ h
  | 14, _ => exact link_len _ _ h
  | 15, _ => exact link_len _ _ h
  | 16, _ =>
    match xs, hx with
    | [], _ => exact h
  | 17, _ =>
    match xs, hx with
    | [z], _ => exact drop_len z h
  | 18, _ =>
    match xs, hx with
    | [w, m, k, r, o], _ => exact h
  | 19, _ =>
    match xs, hx with
    | [w, m, k, r, o], _ => exact h
  | 20, _ => exact link_len _ _ h
  | 21, _ =>
    match xs, hx with
    | [], _ => exact h
  | j + 22, h => omega
theorem step_sim {n : Int} {xs it : List Int} (R : SR ms ss b) (h1 : 0 ≤ n) (h2 : n ≤ 21) (hx : xs.length = nargs n) : SimS b (mStep ms n xs it) (VbtwadNeutral.step ss (rowsOf n xs it)) := by
  obtain ⟨j, rfl⟩ : ∃ j : Nat, n = (j : Int) := ⟨n.toNat, by omega⟩
  match j, (show j ≤ 21 by omega) with
  | 0, _ =>
    match xs, hx with
    | [w, m, k, r, o], _ => exact new_sim R w m k r o
  | 1, _ =>
    match xs, hx with
    | [z], _ => exact link_sim R z fun m l i => s_send i it
  | 2, _ =>
    match xs, hx with
    | [z, a], _ => exact link_sim R z fun m l i => s_retr i a
  | 3, _ =>
    match xs, hx with
    | [z, k, st], _ => exact link_sim R z fun m l i => s_delF i k st
  | 4, _ =>
    match xs, hx with
    | [z, k], _ => exact link_sim R z fun m l i => s_loseF i k
  | 5, _ =>
    match xs, hx with
    | [z, k, j, v], _ => exact link_sim R z fun m l i => s_corF i k j v
  | 6, _ =>
    match xs, hx with
    | [z], _ => exact link_sim R z fun m l i => s_sendA i
  | 7, _ =>
    match xs, hx with
    | [z, k, st], _ => exact link_sim R z fun m l i => s_delA i k st
  | 8, _ =>
    match xs, hx with
    | [z, k], _ => exact link_sim R z fun m l i => s_loseA i k
  | 9, _ =>
    match xs, hx with
    | [z, k, j, v], _ => exact link_sim R z fun m l i => s_corA i k j v
  | 10, _ =>
    match xs, hx with
    | [z], _ => exact link_sim R z fun m l i => s_listF i
  | 11, _ =>
    match xs, hx with
    | [z], _ => exact link_sim R z fun m l i => s_listA i
  | 12, _ =>
    match xs, hx with
    | [z], _ => exact link_sim R z fun m l i => s_sState i
  | 13, _ =>
    match xs, hx with
    | [z], _ => exact link_sim R z fun m l i => s_rState i
  | 14, _ =>
    match xs, hx with
    | [z, k], _ => exact link_sim R z fun m l i => s_listD i k
  | 15, _ =>
    match xs, hx with
    | [z], _ => exact link_sim R z fun m l i => s_listT i
  | 16, _ =>
    match xs, hx with
    | [], _ => exact min_eq R
  | 17, _ =>
    match xs, hx with
    | [z], _ => exact dropB_sim R z
  | 18, _ =>
    match xs, hx with
    | [w, m, k, r, o], _ => exact check_sim R w m k r o
  | 19, _ =>
    match xs, hx with
    | [w, m, k, r, o], _ => exact fail_sim R w m k r o
  | 20, _ =>
    match xs, hx with
    | [z], _ => exact link_sim R z fun m l i => s_recov i
  | 21, _ =>
    match xs, hx with
    | [], _ => exact counts_sim R
  | j + 22, h => omega
end
end W170

namespace W170
/-! ### the flat list -/
def cntOf (j : Nat) : Nat := ([5, 1, 2, 3, 2, 4, 1, 3, 2, 4, 1, 1, 1, 1, 2, 1, 0, 1, 5, 5, 1, 0] : List Nat).getD j 0
theorem ite_some {α : Type} {p a : Int} {x y : α} {r : Option α} (h : (if p = a then some x else r) = some y) : (p = a ∧ x = y) ∨ r = some y := by
  by_cases c : p = a
  · rw [if_pos c] at h
    exact .inl ⟨c, Option.some.inj h⟩
  · rw [if_neg c] at h
    exact .inr h
theorem shape_num {p : Int} {n k : Nat} (h : PyVbtwad.shape p = some (n, k)) : ∃ j : Nat, p = (j : Int) ∧ j ≤ 21 ∧ n = cntOf j ∧ k = if j = 1 then 1 else 0 := by
  unfold PyVbtwad.shape at h
  iterate 22
    rcases ite_some h with ⟨rfl, e⟩ | h
    · cases e
      exact ⟨(_ : Nat), rfl, by decide, rfl, rfl⟩
  cases h
theorem whole_id (c : List (List Int)) : PyVbtwad.whole c = c := by
  unfold PyVbtwad.whole
  split <;> rfl
theorem whole_map (cs : List (List (List Int))) : cs.map PyVbtwad.whole = cs := by
  induction cs with
  | nil => rfl
  | cons c cs ih => rw [List.map_cons, ih, whole_id]
def tailOf (j : Nat) (it : List Int) : List Int := if j = 1 then (it.length : Int) :: it else []
theorem calls_nil (f : Nat) {cs : List (List (List Int))} (h : PyFlat.calls PyVbtwad.shape f [] = some cs) : cs = [] := by
  cases f with
  | zero => exact (Option.some.inj h).symm
  | succ f => exact (Option.some.inj h).symm
theorem parse_one {f : Nat} {p : Int} {r : List Int} {cs : List (List (List Int))} (h : PyFlat.calls PyVbtwad.shape f (p :: r) = some cs) :
    ∃ (j : Nat) (xs it t : List Int) (cs' : List (List (List Int))) (f' : Nat), p = (j : Int) ∧ j ≤ 21 ∧ xs.length = cntOf j ∧ (j ≠ 1 → it = []) ∧ r = xs ++ (tailOf j it ++ t) ∧ cs = rowsOf (j : Int) xs it :: cs' ∧ PyFlat.calls PyVbtwad.shape f' t = some cs' := by
  cases f with
  | zero => cases h
  | succ f =>
    have h' : (match PyFlat.call PyVbtwad.shape (p :: r) with
      | none => none
      | some (c, t) => match PyFlat.calls PyVbtwad.shape f t with
        | none => none
        | some cs => some (c :: cs)) = some cs := h
    split at h'
    · cases h'
    · rename_i c t e
      split at h'
      · cases h'
      · rename_i cs' e2
        have e3 := (Option.some.inj h').symm
        unfold PyFlat.call at e
        dsimp only at e
        split at e
        · cases e
        · rename_i n k es
          obtain ⟨j, rfl, hj, rfl, rfl⟩ := shape_num es
          split at e
          · cases e
          · rename_i hl
            have hd : r = r.take (cntOf j) ++ r.drop (cntOf j) := (List.take_append_drop _ _).symm
            have tl : (r.take (cntOf j)).length = cntOf j := by
              rw [List.length_take]
              omega
            generalize r.take (cntOf j) = xs at e hd tl
            generalize r.drop (cntOf j) = rr at e hd
            by_cases c1 : j = 1
            · subst c1
              rw [if_pos rfl] at e
              unfold PyFlat.rows at e
              split at e
              · cases e
              · rename_i rs t' er
                have e4 := Option.some.inj e
                cases e4
                split at er
                · cases er
                · rename_i x s ex
                  have er' : (match (some (([] : List (List Int)), s)) with
                    | none => none
                    | some (xs, t) => some (x :: xs, t)) = some (rs, t) := er
                  have er2 := Option.some.inj er'
                  cases er2
                  cases rr with
                  | nil => cases ex
                  | cons n0 r0 =>
                    have ex' : (if 0 ≤ n0 ∧ n0.toNat ≤ r0.length then some (r0.take n0.toNat, r0.drop n0.toNat) else none) = some (x, t) := ex
                    by_cases c2 : 0 ≤ n0 ∧ n0.toNat ≤ r0.length
                    · rw [if_pos c2] at ex'
                      have e5 := Option.some.inj ex'
                      cases e5
                      refine ⟨1, xs, r0.take n0.toNat, r0.drop n0.toNat, cs', f, rfl, hj, tl, fun z => absurd rfl z, ?_, e3, e2⟩
                      rw [hd]
                      show xs ++ n0 :: r0 = xs ++ (((r0.take n0.toNat).length : Int) :: r0.take n0.toNat ++ r0.drop n0.toNat)
                      rw [List.length_take, Nat.min_eq_left c2.2, List.cons_append, List.take_append_drop]
                      congr 2
                      omega
                    · rw [if_neg c2] at ex'
                      cases ex'
            · rw [if_neg c1] at e
              have e4 : some (([(j : Int) :: xs] : List (List Int)), rr) = some (c, t) := e
              have e5 := Option.some.inj e4
              cases e5
              refine ⟨j, xs, [], t, cs', f, rfl, hj, tl, fun _ => rfl, ?_, ?_, e2⟩
              · rw [hd]
                unfold tailOf
                rw [if_neg c1]
                rfl
              · rw [e3]
                unfold rowsOf
                rw [if_neg (by omega)]
theorem nargs_cnt {j : Nat} (h : j ≤ 21) : nargs (j : Int) = cntOf j := by
  match j, h with
  | 0, _ => rfl
  | 1, _ => rfl
  | 2, _ => rfl
  | 3, _ => rfl
  | 4, _ => rfl
  | 5, _ => rfl
  | 6, _ => rfl
  | 7, _ => rfl
  | 8, _ => rfl
  | 9, _ => rfl
  | 10, _ => rfl
  | 11, _ => rfl
  | 12, _ => rfl
  | 13, _ => rfl
  | 14, _ => rfl
  | 15, _ => rfl
  | 16, _ => rfl
  | 17, _ => rfl
  | 18, _ => rfl
  | 19, _ => rfl
  | 20, _ => rfl
  | 21, _ => rfl
  | j + 22, h => omega
end W170

namespace W170
open PySem PySem.Spec PyProof.Rows L2
/-- a part of the flat list, as a slice gives it -/
theorem cut_map {l : List Int} {i n : Nat} (h : i + n ≤ l.length) : cutV (l.map V.int) (some (i : Int)) (some ((i + n : Nat) : Int)) = ((l.drop i).take n).map V.int := by
  unfold cutV
  rw [show HT.sIx (l.map V.int).length 0 (some (i : Int)) = min i (l.map V.int).length from HT.sIx_nat _ 0 i, show HT.sIx (l.map V.int).length (l.map V.int).length (some ((i + n : Nat) : Int)) = min (i + n) (l.map V.int).length from HT.sIx_nat _ _ (i + n), List.length_map, Nat.min_eq_left (by omega : i ≤ l.length), Nat.min_eq_left h, Nat.add_sub_cancel_left, List.map_take, List.map_drop]
theorem drop_at {l r : List Int} {k : Nat} (h : l.drop k = r) (i : Nat) : l[k + i]? = r[i]? := by
  rw [← h, List.getElem?_drop]
theorem drop_more {l r : List Int} {k : Nat} (h : l.drop k = r) (i : Nat) : l.drop (k + i) = r.drop i := by
  rw [← h, List.drop_drop]
def spAnswers (K : PySem.W.Frag) : Sp := fun vs H Q _ => ∃ (c : Addr) (l : List Int) (cs : List (List (List Int))), vs = [.ref c] ∧ SqL K H c (l.map V.int) ∧ PyFlat.calls PyVbtwad.shape l.length l = some cs ∧ cs.length ≤ 150 ∧ (PyFlat.told (PyFlat.played VbtwadNeutral.step VbtwadNeutral.start cs)).length ≤ 10000000 ∧
  ∀ H' p, H' p = some (.lst ((PyFlat.told (PyFlat.played VbtwadNeutral.step VbtwadNeutral.start cs)).map V.int)) → Q (.ref p) H'
/-- the list handed in -/
def CaAt (K : PySem.W.Frag) (g : Gh) (H : Hp) (c : Addr) (xs : List V) : Prop := (Rd H c (.lst xs) ∧ g c = imm) ∨ (∃ (o : Obj) (its : Array Value) (n : Nat), K.lookup c = some o ∧ o.cls = .type "list" ∧ o.dict = none ∧ o.data = .seq its n ∧ its.size ≤ sizeLine ∧ Vals xs its.toList)
theorem CaAt.sq {K : PySem.W.Frag} {g : Gh} {H : Hp} {c : Addr} {xs : List V} (h : CaAt K g H c xs) : SqL K H c xs := h.elim (fun h => .inl h.1) .inr
theorem CaAt.mv {K : PySem.W.Frag} {S : Role → Prop} {g g' : Gh} {H H' : Hp} {c : Addr} {xs : List V} (h : CaAt K g H c xs) (m : Mv S g H g' H') (hi : ¬ S imm) : CaAt K g' H' c xs := by
  rcases h with ⟨h | ⟨o, h⟩, e⟩ | h
  · exact .inl ⟨.inl (m.keep _ _ h (by rw [e]; exact hi)), (m.tag _ _ h).trans e⟩
  · exact .inl ⟨.inr ⟨o, m.keep _ _ h (by rw [e]; exact hi)⟩, (m.tag _ _ h).trans e⟩
  · exact .inr h
theorem LksAt.mv {C : Cs} {S : Role → Prop} {g g' : Gh} {H H' : Hp} {L : Addr} {as : List Addr} {ms : List Lk} {b : Nat} (h : LksAt C g H L as ms b) (m : Mv S g H g' H') (h0 : ¬ S (0, 8, 0)) (hs : ∀ i j n, j ≤ 4 → ¬ S (i, j, n)) (hi : ¬ S imm) : LksAt C g' H' L as ms b :=
  ⟨h.1.mv m h0, h.2.1, fun i a m' h1 h2 => (h.2.2 i a m' h1 h2).mv m (fun j n hj => hs i j n hj) hi⟩
theorem y_asgsl {K : PySem.W.Frag} {D : Ends} {σ : L2.St} {H : Hp} {ta tl th : TE} {p : Addr} {xs : List V} {i j : Int} {n : Nat} (ha : EvX ta σ H (.ref p)) (hs : SqL K H p xs) (hl : EvX tl σ H (.int i)) (hh : EvX th σ H (.int j)) (h : ∀ q, H q = none → D.nx (σ.set n (some (.ref q))) (upd H q (.lst (cutV xs (some i) (some j))))) :
    tAsg (tSl (rSlL K) ta (tPart tl) (tPart th)) (gName n) D σ H := ha _ (hl _ ⟨i, rfl, hh _ ⟨j, rfl, p, xs, rfl, hs, h⟩⟩)
/-- an if whose two ways meet: what holds behind it is told once -/
theorem if_meet {t : TT} {A B : TS} {D : Ends} {σ : L2.St} {H : Hp} {a : Bool} (M : L2.St → Hp → Prop) (he : EtX t σ H a) (after : ∀ σ' H', M σ' H' → D.nx σ' H')
    (h1 : a = true → ∀ nx' : L2.St → Hp → Prop, (∀ σ' H', M σ' H' → nx' σ' H') → A { D with nx := nx' } σ H) (h2 : a = false → ∀ nx' : L2.St → Hp → Prop, (∀ σ' H', M σ' H' → nx' σ' H') → B { D with nx := nx' } σ H) : tIfS t A B D σ H :=
  he _ (if_c (fun e => h1 e D.nx after) (fun e => h2 e D.nx after))
section
variable {P : Program} {w : World} {K : PySem.W.Frag} {mg : Str → Option Value} {base : Heap} {C : Cs}
theorem b_answers (T : Txt K mg C) : BodyOk P w K mg base 11 "answers" s_answers ["calls", "links", "results", "place", "call_number", "end", "arguments", "row_start", "answer"] (spAnswers K) := by
  have cA : C8.Cal P w K mg base 11 "answer_call" (SpAns K C) [] := c_answer_call T
  obtain ⟨aC, mC, kC⟩ := T.n_ARGUMENT_COUNTS
  intro f cdv A outer s H vs Q E hr h
  · obtain ⟨c, l, cs, rfl, hl, hp, h150, hlen, k⟩ := h
    refine ⟨_, pss_cons (ps_set (i := 1) sc_answers.nd rfl (.inl rfl) (pe_lst pa_nil))
      (pss_cons (ps_set (i := 2) sc_answers.nd rfl (.inl rfl) (pe_lst pa_nil))
      (pss_cons (ps_set (i := 3) sc_answers.nd rfl (.inl rfl) pe_int)
      (pss_cons (ps_while PassesOwn.never (pt_cmpR op_lt (pv 3) (pe_ln T.b_len (pv 0)) (nomark _))
        (pss_cons (ps_set (i := 4) sc_answers.nd rfl (.inl rfl) (pe_ix ix_list (pv 0) (pv 3) (fun _ _ => rfl)))
        (pss_cons (ps_set (i := 5) sc_answers.nd rfl (.inl rfl) (pe_op op_add (pe_op op_add (pv 3) pe_int) (pe_ix ix_tup (pe_gr mC) (pv 4) (fun _ _ => rfl))))
        (pss_cons (ps_set (i := 6) sc_answers.nd rfl (.inl rfl) (pe_slice sl_list (pv 0) (po_some (pe_op op_add (pv 3) pe_int)) (po_some (pv 5))))
        (pss_cons (ps_if (pt_cmpR op_eq (pv 4) (pe_gi T.n_SEND_ITEM) (nomark _))
          (pss_cons (ps_set (i := 7) sc_answers.nd rfl (.inl rfl) (pe_op op_add (pv 5) pe_int))
          (pss_cons (ps_set (i := 5) sc_answers.nd rfl (.inl rfl) (pe_op op_add (pv 7) (pe_ix ix_list (pv 0) (pv 5) (fun _ _ => rfl))))
          (pss_one (ps_expr (pe_bm PySem.F.plainAttrs_list PySem.F.slot_list_append PySem.F.type_list_append mt_append (pv 6) (pa_cons (pe_slice sl_list (pv 0) (po_some (pv 7)) (po_some (pv 5))) pa_nil)))))) pss_nil)
        (pss_cons (ps_set (i := 8) sc_answers.nd rfl (.inl rfl) (C8.pe_c cA hr (by decide) (by rfl) (pa_cons (pv 1) (pa_cons (pv 4) (pa_cons (pv 6) pa_nil)))))
        (pss_cons (ps_expr (pe_bm PySem.F.plainAttrs_list PySem.F.slot_list_append PySem.F.type_list_append mt_append (pv 2) (pa_cons (pe_ln T.b_len (pv 8)) pa_nil)))
        (pss_cons (ps_expr (pe_bm PySem.F.plainAttrs_list PySem.F.slot_list_extend PySem.F.type_list_extend mt_extend (pv 2) (pa_cons (pv 8) pa_nil)))
        (pss_one (ps_set (i := 3) sc_answers.nd rfl (.inl rfl) (pv 5)))))))))))
      (pss_one (ps_ret (pv 2)))))), ?_⟩
    refine y_asgl x_nil (by show 0 ≤ 1000; decide) fun L nL => ?_
    have s1 : Same H (upd H L (.lst [])) := same_new nL
    refine y_asgl x_nil (by show 0 ≤ 1000; decide) fun r nr => ?_
    have nLr : L ≠ r := ne_of_none upd_same nr
    have s2 : Same H (upd (upd H L (.lst [])) r (.lst [])) := fun b o h => (upd_ne (ne_of_none (s1 _ _ h) nr)).trans (s1 _ _ h)
    let g0 : Gh := tagAt (tagAt (fun _ => imm) L (0, 8, 0)) r (0, 8, 1)
    have gL : g0 L = (0, 8, 0) := (tag_ne nLr).trans tag_same
    have gr : g0 r = (0, 8, 1) := tag_same
    have hc0 : CaAt K g0 (upd (upd H L (.lst [])) r (.lst [])) c (l.map V.int) := by
      have go : ∀ o, H c = some o → g0 c = imm := fun o h => (tag_ne (ne_of_none (s1 _ _ h) nr)).trans (tag_ne (ne_of_none h nL))
      rcases hl with (h | ⟨o, h⟩) | h
      · exact .inl ⟨.inl (s2 _ _ h), go _ h⟩
      · exact .inl ⟨.inr ⟨o, s2 _ _ h⟩, go _ h⟩
      · exact .inr h
    refine ⟨fun m σ H1 => ∃ g1 as ms ss b kk done cs' f' x4 x5 x6 x7 x8, σ = [some (.ref c), some (.ref L), some (.ref r), some (.int (kk : Nat)), x4, x5, x6, x7, x8] ∧ CaAt K g1 H1 c (l.map V.int) ∧ At g1 H1 (0, 8, 1) r (.lst (done.map V.int)) ∧
        LksAt C g1 H1 L as ms b ∧ SR ms ss b ∧ ms.length ≤ 4 ∧ PyFlat.calls PyVbtwad.shape f' (l.drop kk) = some cs' ∧ cs'.length = m ∧ b + 50000 * m ≤ 7500000 ∧ done ++ PyFlat.told (PyFlat.played VbtwadNeutral.step ss cs') = PyFlat.told (PyFlat.played VbtwadNeutral.step VbtwadNeutral.start cs),
      ⟨cs.length, g0, [], [], [], 0, 0, [], cs, l.length, _, _, _, _, _, rfl, hc0, ⟨gr, upd_same⟩, ⟨⟨gL, (upd_ne nLr).trans upd_same⟩, rfl, fun i a m h1 _ => (by cases h1)⟩, ⟨rfl, fun i m l h1 _ => (by cases h1)⟩, Nat.zero_le _, hp, rfl, by omega, rfl⟩, ?_⟩
    rintro m σ H1 ⟨g1, as, ms, ss, b, kk, done, cs', f', x4, x5, x6, x7, x8, rfl, hc, hR, hL, hS, h4, hcs, hm, hb, htot⟩
    have eT : EtX (tTest (tOp (rI0 fun i j => V.bl (decide (i < j))) (tVar 3) (tCB (rLn K) (tCons (tVar 0) tNil)))) [some (V.ref c), some (V.ref L), some (V.ref r), some (V.int (kk : Nat)), x4, x5, x6, x7, x8] H1 (decide ((kk : Int) < ((l.map V.int).length : Nat))) := x_test (x_i0 (x_v 3) (x_len (x_v 0) hc.sq))
    rw [List.length_map] at eT
    refine eT _ ?_
    refine if_c (fun e => ?_) (fun e => ?_)
    · have lt := of_decide_eq_true e
      obtain ⟨p0, r0, ed⟩ : ∃ p0 r0, l.drop kk = p0 :: r0 := by
        cases q : l.drop kk with
        | nil =>
          have := List.drop_eq_nil_iff.mp q
          omega
        | cons p0 r0 => exact ⟨p0, r0, rfl⟩
      rw [ed] at hcs
      obtain ⟨j, xs, it, t, cs2, f2, rfl, hj21, hxs, hit, er, ecs, hcs2⟩ := parse_one hcs
      subst ecs
      obtain ⟨m', rfl⟩ : ∃ m', m = m' + 1 := ⟨cs2.length, by rw [← hm]; rfl⟩
      have hm' : cs2.length = m' := by
        have h : cs2.length + 1 = m' + 1 := hm
        omega
      have hj : j ≤ 21 := hj21
      have hlen2 : l.length = kk + 1 + (xs.length + ((tailOf j it).length + t.length)) := by
        have h := congrArg List.length ed
        rw [List.length_drop, List.length_cons, er, List.length_append, List.length_append] at h
        omega
      refine ⟨_, fun σ2 H2 h => ⟨m', Nat.lt_succ_self _, h⟩, ?_⟩
      have ed' : l.drop kk = (j : Int) :: (xs ++ (tailOf j it ++ t)) := by rw [ed, er]
      have a0 : (l.map V.int)[kk]? = some (.int (j : Int)) := by
        rw [List.getElem?_map, show l[kk]? = some (j : Int) from (drop_at ed' 0).trans rfl]
        rfl
      refine y_asg (x_ix (n := kk) (x_v 0) (x_v 3) hc.sq a0) ?_
      have aCj : (([5, 1, 2, 3, 2, 4, 1, 3, 2, 4, 1, 1, 1, 1, 2, 1, 0, 1, 5, 5, 1, 0] : List Int).map V.int)[j]? = some (.int ((cntOf j : Nat) : Int)) := by
        match j, hj with
        | 0, _ => rfl
        | 1, _ => rfl
        | 2, _ => rfl
        | 3, _ => rfl
        | 4, _ => rfl
        | 5, _ => rfl
        | 6, _ => rfl
        | 7, _ => rfl
        | 8, _ => rfl
        | 9, _ => rfl
        | 10, _ => rfl
        | 11, _ => rfl
        | 12, _ => rfl
        | 13, _ => rfl
        | 14, _ => rfl
        | 15, _ => rfl
        | 16, _ => rfl
        | 17, _ => rfl
        | 18, _ => rfl
        | 19, _ => rfl
        | 20, _ => rfl
        | 21, _ => rfl
        | j + 22, h => omega
      have e1 : EvX (tOp (rI0 fun i j => V.int (i + j)) (tOp (rI0 fun i j => V.int (i + j)) (tVar 3) (tC (V.int 1))) (tOp (rIxT K) (tC (V.ref aC)) (tVar 4))) [some (V.ref c), some (V.ref L), some (V.ref r), some (V.int (kk : Nat)), some (.int (j : Nat)), x5, x6, x7, x8] H1 (.int ((kk : Int) + 1 + ((cntOf j : Nat) : Int))) := x_i0 (x_i0 (x_v 3) x_c) (x_ixT (n := j) x_c (x_v 4) kC.sq aCj)
      refine y_asg e1 ?_
      rw [show ((kk : Int) + 1 + ((cntOf j : Nat) : Int)) = ((kk + 1 + xs.length : Nat) : Int) by rw [hxs]; omega]
      have e5 : EvX (tOp (rI0 fun i j => V.int (i + j)) (tVar 3) (tC (V.int 1))) [some (V.ref c), some (V.ref L), some (V.ref r), some (V.int (kk : Nat)), some (.int (j : Nat)), some (.int ((kk + 1 + xs.length : Nat) : Int)), x6, x7, x8] H1 (.int ((kk : Int) + 1)) := x_i0 (x_v 3) x_c
      refine y_asgsl (x_v 0) hc.sq e5 (x_v 5) fun q nq => ?_
      rw [show ((kk : Int) + 1) = ((kk + 1 : Nat) : Int) by omega, cut_map (by omega : kk + 1 + xs.length ≤ l.length), drop_more ed' 1, show ((j : Int) :: (xs ++ (tailOf j it ++ t))).drop 1 = xs ++ (tailOf j it ++ t) from rfl, List.take_left]
      have sq : Same H1 (upd H1 q (.lst (xs.map V.int))) := same_new nq
      have e2 : EtX (tTest (tOp rEq (tVar 4) (tC (V.int 1)))) [some (V.ref c), some (V.ref L), some (V.ref r), some (V.int (kk : Nat)), some (.int (j : Nat)), some (.int ((kk + 1 + xs.length : Nat) : Int)), some (.ref q), x7, x8] (upd H1 q (.lst (xs.map V.int))) (decide ((j : Int) = 1)) := x_test (x_eqI (x_v 4) x_c)
      refine if_meet (fun σ' H' => ∃ g3 x7, σ' = [some (V.ref c), some (V.ref L), some (V.ref r), some (V.int (kk : Nat)), some (.int (j : Nat)), some (.int ((kk + 1 + (xs.length + (tailOf j it).length) : Nat) : Int)), some (.ref q), x7, x8] ∧ Mv (fun _ => False) g1 H1 g3 H' ∧ ArgAt K g3 H' q (j : Int) xs it) e2 ?_ (fun ej nx' hnx => ?_) (fun ej nx' hnx => ?_)
      · rintro σ' H3 ⟨g3, x7', rfl, mv3, hArg⟩
        have hc3 := hc.mv mv3 (fun z => z)
        have hR3 := hR.mv mv3 (fun z => z)
        have hL3 := hL.mv mv3 (fun z => z) (fun _ _ _ _ z => z) (fun z => z)
        refine x_call (x_cons (x_v 1) (x_cons (x_v 4) (x_cons (x_v 6) x_nil))) ?_
        have hxn : xs.length = nargs (j : Int) := by rw [nargs_cnt hj]; exact hxs
        obtain ⟨sR, sA⟩ := step_sim (it := it) hS (by omega : (0 : Int) ≤ (j : Int)) (by omega) hxn
        have h44 := step_len (it := it) hS (by omega : (0 : Int) ≤ (j : Int)) (by omega) hxn h4
        have ht : PyFlat.told (PyFlat.played VbtwadNeutral.step ss (rowsOf (j : Int) xs it :: cs2)) = (((VbtwadNeutral.step ss (rowsOf (j : Int) xs it)).2.length : Int) :: (VbtwadNeutral.step ss (rowsOf (j : Int) xs it)).2) ++ PyFlat.told (PyFlat.played VbtwadNeutral.step (VbtwadNeutral.step ss (rowsOf (j : Int) xs it)).1 cs2) := rfl
        rw [ht] at htot
        generalize VbtwadNeutral.step ss (rowsOf (j : Int) xs it) = sp at htot sR sA
        have hlen3 : done.length + (sp.2.length + 1) ≤ 10000000 := by
          rw [← htot, List.length_append, List.length_append, List.length_cons] at hlen
          omega
        have hres : (mStep ms (j : Int) xs it).2.length ≤ 10000000 := by
          rw [sA]
          omega
        refine ⟨g3, L, q, as, ms, b, (j : Int), xs, it, rfl, hL3, hS.oks, h4, by omega, ⟨by omega, by omega⟩, hxn, hArg, hres, fun g4 H4 p as4 mv4 np4 hL4 hp4 => ?_⟩
        generalize mStep ms (j : Int) xs it = st at hL4 hp4 sR sA h44
        rw [sA] at hp4
        have hR4 := hR3.mv mv4 (fun z => z.2 rfl)
        have hc4 := hc3.mv mv4 (fun z => absurd z.1 (by decide))
        have npr : r ≠ p := ne_of_none hR3.2 np4
        refine y_app (x_v 2) hR4.2 (x_len (x_v 8) (.of hp4) _ ⟨r, _, _, rfl, rfl, hR4.2, ?_, ?_⟩)
        · rw [List.length_map]
          exact Nat.lt_of_le_of_lt (by omega : _ ≤ 10000000) (by decide)
        refine ⟨_, rfl, .inl ⟨rfl, _, SqL.of upd_same⟩, _, rfl, r, p, _, _, rfl, rfl, upd_same, (upd_ne npr.symm).trans hp4, ?_, ?_⟩
        · rw [List.length_append, List.length_map, List.length_map]
          exact Nat.le_trans (by show _ + 1 + _ ≤ 10000000; omega) (by decide)
        refine y_asg (x_v 5) ?_
        have mv5 : Mv (fun x => x = (0, 8, 1)) g4 H4 g4 (upd (upd H4 r (.lst (done.map V.int ++ [.int (sp.2.map V.int).length]))) r (.lst (done.map V.int ++ [.int (sp.2.map V.int).length] ++ sp.2.map V.int))) := (Mv.set hR4.2 hR4.1).trans (Mv.set upd_same hR4.1)
        have no : ∀ i j n, j ≤ 4 → ¬ ((i, j, n) : Role) = (0, 8, 1) := fun i j n hj z => by
          have := congrArg (fun r : Role => r.2.1) z
          have h : j = 8 := this
          omega
        refine ⟨g4, as4, st.1, sp.1, b + 50000, kk + 1 + (xs.length + (tailOf j it).length), done ++ ((sp.2.length : Int) :: sp.2), cs2, f2, _, _, _, _, _, rfl, hc4.mv mv5 (fun z => by cases congrArg (fun r : Role => r.2.1) z), ⟨hR4.1, ?_⟩, hL4.mv mv5 (fun z => by cases congrArg (fun r : Role => r.2.2) z) no (fun z => by cases congrArg (fun r : Role => r.2.1) z), sR, h44, ?_, hm', by omega, ?_⟩
        · rw [upd_same, List.length_map, List.map_append, List.append_assoc]
          rfl
        · have h := drop_more ed' (1 + (xs.length + (tailOf j it).length))
          rw [← Nat.add_assoc] at h
          rw [h, Nat.add_comm 1, List.drop_succ_cons, ← List.drop_drop, List.drop_left, List.drop_left]
          exact hcs2
        · rw [List.append_assoc]
          exact htot
      · have ej1 : (j : Int) = 1 := of_decide_eq_true ej
        obtain rfl : j = 1 := by omega
        have et : tailOf 1 it = (it.length : Int) :: it := rfl
        rw [et, List.length_cons] at hlen2
        rw [et] at ed'
        have a1 : (l.map V.int)[kk + 1 + xs.length]? = some (.int (it.length : Int)) := by
          rw [List.getElem?_map, Nat.add_assoc, drop_at ed' (1 + xs.length), Nat.add_comm 1, List.getElem?_cons_succ, List.getElem?_append_right (Nat.le_refl _), Nat.sub_self]
          rfl
        have sqm : ∀ {S : Role → Prop}, Mv S g1 H1 (tagAt g1 q imm) (upd H1 q (.lst (xs.map V.int))) := Mv.new imm nq
        have hcq := hc.mv (S := fun _ => False) sqm (fun z => z)
        refine y_asg (x_i0 (x_v 5) x_c) ?_
        have e6 : EvX (tOp (rI0 fun i j => V.int (i + j)) (tVar 7) (tOp (rIxL K) (tVar 0) (tVar 5))) [some (V.ref c), some (V.ref L), some (V.ref r), some (V.int (kk : Nat)), some (.int ((1 : Nat) : Int)), some (.int ((kk + 1 + xs.length : Nat) : Int)), some (.ref q), some (.int (((kk + 1 + xs.length : Nat) : Int) + 1)), x8] (upd H1 q (.lst (xs.map V.int))) (.int (((kk + 1 + xs.length : Nat) : Int) + 1 + (it.length : Int))) := x_i0 (x_v 7) (x_ix (x_v 0) (x_v 5) hcq.sq a1)
        refine y_asg e6 ?_
        refine y_app (x_v 6) upd_same ?_
        refine x_v 0 rfl _ (x_v 7 rfl _ ⟨_, rfl, x_v 5 rfl _ ⟨_, rfl, c, _, rfl, hcq.sq, fun p2 np2 => ?_⟩⟩)
        rw [show ((kk + 1 + xs.length : Nat) : Int) + 1 = ((kk + 1 + xs.length + 1 : Nat) : Int) by omega, show ((kk + 1 + xs.length + 1 : Nat) : Int) + (it.length : Int) = ((kk + 1 + xs.length + 1 + it.length : Nat) : Int) by omega, cut_map (by omega : kk + 1 + xs.length + 1 + it.length ≤ l.length)]
        have ed2 : (l.drop (kk + 1 + xs.length + 1)).take it.length = it := by
          have h := drop_more ed' (1 + (xs.length + 1))
          rw [show kk + (1 + (xs.length + 1)) = kk + 1 + xs.length + 1 by omega] at h
          rw [h, Nat.add_comm 1, List.drop_succ_cons, ← List.drop_drop, List.drop_left, List.cons_append, List.drop_succ_cons, List.drop_zero, List.take_left]
        rw [ed2]
        have nqp : q ≠ p2 := ne_of_none upd_same np2
        have np1 : H1 p2 = none := sq.free np2
        have hx1 : xs.length = 1 := hxs
        refine ⟨q, _, _, rfl, rfl, (upd_ne nqp).trans upd_same, ?_, ?_⟩
        · rw [List.length_map, hx1]
          decide
        refine hnx _ _ ⟨tagAt (tagAt g1 q imm) p2 imm, some (.int ((kk + 1 + xs.length + 1 : Nat) : Int)), ?_, ⟨fun u o h => (tag_ne (ne_of_none h np1)).trans (tag_ne (ne_of_none h nq)), ?_, ?_⟩, ?_, ?_⟩
        · rw [et, List.length_cons, show kk + 1 + xs.length + 1 + it.length = kk + 1 + (xs.length + (it.length + 1)) by omega]
          rfl
        · intro u o h _
          exact (upd_ne (ne_of_none h nq)).trans ((upd_ne (ne_of_none h np1)).trans (sq _ _ h))
        · intro u o h
          exact ⟨o, (upd_ne (ne_of_none h nq)).trans ((upd_ne (ne_of_none h np1)).trans (sq _ _ h))⟩
        · exact (tag_ne nqp).trans tag_same
        · rw [if_pos (show ((1 : Nat) : Int) = 1 from rfl)]
          exact ⟨p2, upd_same, tag_same, (upd_ne nqp.symm).trans upd_same⟩
      · have ej1 : ¬ (j : Int) = 1 := of_decide_eq_false ej
        have et : tailOf j it = [] := if_neg (by omega)
        refine hnx _ _ ⟨tagAt g1 q imm, x7, ?_, Mv.new imm nq, tag_same, ?_⟩
        · rw [et]
          rfl
        · rw [if_neg ej1]
          exact upd_same
    · have ge := of_decide_eq_false e
      rw [List.drop_eq_nil_of_le (by omega)] at hcs
      have e0 := calls_nil _ hcs
      subst e0
      have htot' : done = PyFlat.told (PyFlat.played VbtwadNeutral.step VbtwadNeutral.start cs) := by
        rw [← htot]
        exact (List.append_nil _).symm
      refine y_ret (x_v 2) (k H1 r ?_)
      rw [← htot']
      exact hR.2
end
end W170

namespace W170
open PySem PySem.Spec PyProof.Rows L2
theorem asked_ok {l : List Int} (h : PyVbtwad.answers_asked l = true) : ∃ cs, PyFlat.calls PyVbtwad.shape l.length l = some cs ∧ cs.length ≤ 150 ∧ (PyFlat.told (PyFlat.played VbtwadNeutral.step VbtwadNeutral.start cs)).length ≤ 10000000 ∧ PyVbtwad.answers l = PyFlat.told (PyFlat.played VbtwadNeutral.step VbtwadNeutral.start cs) := by
  unfold PyVbtwad.answers_asked at h
  cases e : PyFlat.calls PyVbtwad.shape l.length l with
  | none =>
    rw [e] at h
    cases h
  | some cs =>
    rw [e] at h
    have h' : (!cs.isEmpty && PyFlat.atMost 150 cs && PyInside.calls PyVbtwad.bound cs && VbtwadNeutral.asked (cs.map PyVbtwad.whole) && PyFlat.short 10000000 (PyVbtwad.answers l)) = true := h
    simp only [Bool.and_eq_true] at h'
    obtain ⟨⟨⟨⟨_, h2⟩, _⟩, _⟩, h5⟩ := h'
    have ea : PyVbtwad.answers l = PyFlat.told (PyFlat.played VbtwadNeutral.step VbtwadNeutral.start cs) := by
      unfold PyVbtwad.answers PyVbtwad.calls
      rw [e]
      show PyFlat.told (PyFlat.played VbtwadNeutral.step VbtwadNeutral.start (cs.map PyVbtwad.whole)) = _
      rw [whole_map]
    refine ⟨cs, rfl, of_decide_eq_true h2, ?_, ea⟩
    rw [← ea]
    exact of_decide_eq_true h5
theorem top_answers {P : Program} {w : World} {K : PySem.W.Frag} {mg : Str → Option Value} {C : Cs} {fa : Addr} (T : Txt K mg C) (hfa : mg "answers" = some (.ref fa)) :
    ∃ fd : FuncData, (∀ (s : Shared) (us : List Value), us.length = (["calls"] : List Str).length → BindsTo s fd ⟨us, []⟩ ((["calls"] : List Str).zip us)) ∧ ∀ base : Heap, K.In base → base.Ns mainGlobals mg → FnOk P w K mg base CX0 12 fa fd ["calls"] (spAnswers K) := by
  obtain ⟨f, fd, F, hm, b⟩ := T.g_answers.ex
  rw [hfa] at hm
  cases hm
  refine ⟨fd, fun s us hl => ?_, fun base _ _ => F.ok sc_answers (fun vs H Q E h => ?_) (b_answers T fa)⟩
  · obtain ⟨oc, od, kV, doc, pm, an, cdv, ct, osl, rfl, lk, hcd⟩ := F.ex
    exact .of_eq (match us, hl with | [_], _ => rfl)
  · obtain ⟨_, _, _, rfl, _⟩ := h
    rfl
end W170

namespace W170
open PySem PySem.Spec PyProof.Rows L2
/-- no class of it has these names -/
inductive NoAll (K : PySem.W.Frag) (C : Addr) : List Str → Prop
  | nil : NoAll K C []
  | cons {n : Str} {r : List Str} : PySem.W.findIn K (.ref C) n = some none → NoAll K C r → NoAll K C (n :: r)
theorem NoAll.all {K : PySem.W.Frag} {C : Addr} {l : List Str} (h : NoAll K C l) : ∀ n ∈ l, NoAttr K C n := by
  induction h with
  | nil => exact fun n h => by cases h
  | cons a r ih =>
    intro n h
    cases h with
    | head => exact a
    | tail _ q => exact ih n q
/-- a dict's entries as they stand -/
inductive EntRaw : List DictEntry → List (Int × Addr) → Prop
  | nil : EntRaw [] []
  | cons {e : DictEntry} {es : List DictEntry} {k : Int} {t : Tok} {f : Addr} {l : List (Int × Addr)} : e.key = .int k t → e.hash = hashInt k → e.val = .ref f → EntRaw es l → EntRaw (e :: es) ((k, f) :: l)
inductive EntMg (mg : Str → Option Value) : List (Int × Addr) → List (Int × Str) → Prop
  | nil : EntMg mg [] []
  | cons {k : Int} {f : Addr} {x : Str} {l : List (Int × Addr)} {r : List (Int × Str)} : mg x = some (.ref f) → EntMg mg l r → EntMg mg ((k, f) :: l) ((k, x) :: r)
theorem EntRaw.ok {mg : Str → Option Value} {es : List DictEntry} {l : List (Int × Addr)} {r : List (Int × Str)} (h : EntRaw es l) (m : EntMg mg l r) : EntOk mg es r := by
  induction h generalizing r with
  | nil =>
    cases m
    trivial
  | cons hk hh hv _ ih =>
    cases m with
    | cons a b => exact ⟨⟨_, hk⟩, hh, ⟨_, hv, a⟩, ih b⟩
theorem facts {h : Heap} {mg : Str → Option Value} {K : PySem.W.Frag}
  {fG0 : Addr} {odG0 anG0 : Option Addr} {slG0 : Array (Option Value)} {ocG0 kVG0 dcG0 pmG0 cdG0 ctG0 : Value}
  {fG1 : Addr} {odG1 anG1 : Option Addr} {slG1 : Array (Option Value)} {ocG1 kVG1 dcG1 pmG1 cdG1 ctG1 : Value}
  {fG2 : Addr} {odG2 anG2 : Option Addr} {slG2 : Array (Option Value)} {ocG2 kVG2 dcG2 pmG2 cdG2 ctG2 : Value}
  {fG3 : Addr} {odG3 anG3 : Option Addr} {slG3 : Array (Option Value)} {ocG3 kVG3 dcG3 pmG3 cdG3 ctG3 : Value}
  {fG4 : Addr} {odG4 anG4 : Option Addr} {slG4 : Array (Option Value)} {ocG4 kVG4 dcG4 pmG4 cdG4 ctG4 : Value}
  {fG5 : Addr} {odG5 anG5 : Option Addr} {slG5 : Array (Option Value)} {ocG5 kVG5 dcG5 pmG5 cdG5 ctG5 : Value}
  {fG6 : Addr} {odG6 anG6 : Option Addr} {slG6 : Array (Option Value)} {ocG6 kVG6 dcG6 pmG6 cdG6 ctG6 : Value}
  {fG7 : Addr} {odG7 anG7 : Option Addr} {slG7 : Array (Option Value)} {ocG7 kVG7 dcG7 pmG7 cdG7 ctG7 : Value}
  {fG8 : Addr} {odG8 anG8 : Option Addr} {slG8 : Array (Option Value)} {ocG8 kVG8 dcG8 pmG8 cdG8 ctG8 : Value}
  {fG9 : Addr} {odG9 anG9 : Option Addr} {slG9 : Array (Option Value)} {ocG9 kVG9 dcG9 pmG9 cdG9 ctG9 : Value}
  {fG10 : Addr} {odG10 anG10 : Option Addr} {slG10 : Array (Option Value)} {ocG10 kVG10 dcG10 pmG10 cdG10 ctG10 : Value}
  {fG11 : Addr} {odG11 anG11 : Option Addr} {slG11 : Array (Option Value)} {ocG11 kVG11 dcG11 pmG11 cdG11 ctG11 : Value}
  {fG12 : Addr} {odG12 anG12 : Option Addr} {slG12 : Array (Option Value)} {ocG12 kVG12 dcG12 pmG12 cdG12 ctG12 : Value}
  {fG13 : Addr} {odG13 anG13 : Option Addr} {slG13 : Array (Option Value)} {ocG13 kVG13 dcG13 pmG13 cdG13 ctG13 : Value}
  {fG14 : Addr} {odG14 anG14 : Option Addr} {slG14 : Array (Option Value)} {ocG14 kVG14 dcG14 pmG14 cdG14 ctG14 : Value}
  {fG15 : Addr} {odG15 anG15 : Option Addr} {slG15 : Array (Option Value)} {ocG15 kVG15 dcG15 pmG15 cdG15 ctG15 : Value}
  {fG16 : Addr} {odG16 anG16 : Option Addr} {slG16 : Array (Option Value)} {ocG16 kVG16 dcG16 pmG16 cdG16 ctG16 : Value}
  {fG17 : Addr} {odG17 anG17 : Option Addr} {slG17 : Array (Option Value)} {ocG17 kVG17 dcG17 pmG17 cdG17 ctG17 : Value}
  {fG18 : Addr} {odG18 anG18 : Option Addr} {slG18 : Array (Option Value)} {ocG18 kVG18 dcG18 pmG18 cdG18 ctG18 : Value}
  {fG19 : Addr} {odG19 anG19 : Option Addr} {slG19 : Array (Option Value)} {ocG19 kVG19 dcG19 pmG19 cdG19 ctG19 : Value}
  {fG20 : Addr} {odG20 anG20 : Option Addr} {slG20 : Array (Option Value)} {ocG20 kVG20 dcG20 pmG20 cdG20 ctG20 : Value}
  {fG21 : Addr} {odG21 anG21 : Option Addr} {slG21 : Array (Option Value)} {ocG21 kVG21 dcG21 pmG21 cdG21 ctG21 : Value}
  {fG22 : Addr} {odG22 anG22 : Option Addr} {slG22 : Array (Option Value)} {ocG22 kVG22 dcG22 pmG22 cdG22 ctG22 : Value}
  {fG23 : Addr} {odG23 anG23 : Option Addr} {slG23 : Array (Option Value)} {ocG23 kVG23 dcG23 pmG23 cdG23 ctG23 : Value}
  {fG24 : Addr} {odG24 anG24 : Option Addr} {slG24 : Array (Option Value)} {ocG24 kVG24 dcG24 pmG24 cdG24 ctG24 : Value}
  {fG25 : Addr} {odG25 anG25 : Option Addr} {slG25 : Array (Option Value)} {ocG25 kVG25 dcG25 pmG25 cdG25 ctG25 : Value}
  {fG26 : Addr} {odG26 anG26 : Option Addr} {slG26 : Array (Option Value)} {ocG26 kVG26 dcG26 pmG26 cdG26 ctG26 : Value}
  {fG27 : Addr} {odG27 anG27 : Option Addr} {slG27 : Array (Option Value)} {ocG27 kVG27 dcG27 pmG27 cdG27 ctG27 : Value}
  {fG28 : Addr} {odG28 anG28 : Option Addr} {slG28 : Array (Option Value)} {ocG28 kVG28 dcG28 pmG28 cdG28 ctG28 : Value}
  {fG29 : Addr} {odG29 anG29 : Option Addr} {slG29 : Array (Option Value)} {ocG29 kVG29 dcG29 pmG29 cdG29 ctG29 : Value}
  {fG30 : Addr} {odG30 anG30 : Option Addr} {slG30 : Array (Option Value)} {ocG30 kVG30 dcG30 pmG30 cdG30 ctG30 : Value}
  {fG31 : Addr} {odG31 anG31 : Option Addr} {slG31 : Array (Option Value)} {ocG31 kVG31 dcG31 pmG31 cdG31 ctG31 : Value}
  {fG32 : Addr} {odG32 anG32 : Option Addr} {slG32 : Array (Option Value)} {ocG32 kVG32 dcG32 pmG32 cdG32 ctG32 : Value}
  {fG33 : Addr} {odG33 anG33 : Option Addr} {slG33 : Array (Option Value)} {ocG33 kVG33 dcG33 pmG33 cdG33 ctG33 : Value}
  {fG34 : Addr} {odG34 anG34 : Option Addr} {slG34 : Array (Option Value)} {ocG34 kVG34 dcG34 pmG34 cdG34 ctG34 : Value}
  {fG35 : Addr} {odG35 anG35 : Option Addr} {slG35 : Array (Option Value)} {ocG35 kVG35 dcG35 pmG35 cdG35 ctG35 : Value}
  {fG36 : Addr} {odG36 anG36 : Option Addr} {slG36 : Array (Option Value)} {ocG36 kVG36 dcG36 pmG36 cdG36 ctG36 : Value}
  {fG37 : Addr} {odG37 anG37 : Option Addr} {slG37 : Array (Option Value)} {ocG37 kVG37 dcG37 pmG37 cdG37 ctG37 : Value}
  {fG38 : Addr} {odG38 anG38 : Option Addr} {slG38 : Array (Option Value)} {ocG38 kVG38 dcG38 pmG38 cdG38 ctG38 : Value}
  {fG39 : Addr} {odG39 anG39 : Option Addr} {slG39 : Array (Option Value)} {ocG39 kVG39 dcG39 pmG39 cdG39 ctG39 : Value}
  {fG40 : Addr} {odG40 anG40 : Option Addr} {slG40 : Array (Option Value)} {ocG40 kVG40 dcG40 pmG40 cdG40 ctG40 : Value}
  {fG41 : Addr} {odG41 anG41 : Option Addr} {slG41 : Array (Option Value)} {ocG41 kVG41 dcG41 pmG41 cdG41 ctG41 : Value}
  {fG42 : Addr} {odG42 anG42 : Option Addr} {slG42 : Array (Option Value)} {ocG42 kVG42 dcG42 pmG42 cdG42 ctG42 : Value}
  {fG43 : Addr} {odG43 anG43 : Option Addr} {slG43 : Array (Option Value)} {ocG43 kVG43 dcG43 pmG43 cdG43 ctG43 : Value}
  {fG44 : Addr} {odG44 anG44 : Option Addr} {slG44 : Array (Option Value)} {ocG44 kVG44 dcG44 pmG44 cdG44 ctG44 : Value}
  {fG45 : Addr} {odG45 anG45 : Option Addr} {slG45 : Array (Option Value)} {ocG45 kVG45 dcG45 pmG45 cdG45 ctG45 : Value}
  {C0 : Addr}
  {fM0_0 : Addr} {odM0_0 anM0_0 : Option Addr} {slM0_0 : Array (Option Value)} {ocM0_0 kVM0_0 dcM0_0 pmM0_0 cdM0_0 ctM0_0 : Value}
  {fM0_1 : Addr} {odM0_1 anM0_1 : Option Addr} {slM0_1 : Array (Option Value)} {ocM0_1 kVM0_1 dcM0_1 pmM0_1 cdM0_1 ctM0_1 : Value}
  {fM0_2 : Addr} {odM0_2 anM0_2 : Option Addr} {slM0_2 : Array (Option Value)} {ocM0_2 kVM0_2 dcM0_2 pmM0_2 cdM0_2 ctM0_2 : Value}
  {fM0_3 : Addr} {odM0_3 anM0_3 : Option Addr} {slM0_3 : Array (Option Value)} {ocM0_3 kVM0_3 dcM0_3 pmM0_3 cdM0_3 ctM0_3 : Value}
  {C1 : Addr}
  {fM1_0 : Addr} {odM1_0 anM1_0 : Option Addr} {slM1_0 : Array (Option Value)} {ocM1_0 kVM1_0 dcM1_0 pmM1_0 cdM1_0 ctM1_0 : Value}
  {fM1_1 : Addr} {odM1_1 anM1_1 : Option Addr} {slM1_1 : Array (Option Value)} {ocM1_1 kVM1_1 dcM1_1 pmM1_1 cdM1_1 ctM1_1 : Value}
  {fM1_2 : Addr} {odM1_2 anM1_2 : Option Addr} {slM1_2 : Array (Option Value)} {ocM1_2 kVM1_2 dcM1_2 pmM1_2 cdM1_2 ctM1_2 : Value}
  {fM1_3 : Addr} {odM1_3 anM1_3 : Option Addr} {slM1_3 : Array (Option Value)} {ocM1_3 kVM1_3 dcM1_3 pmM1_3 cdM1_3 ctM1_3 : Value}
  {fM1_4 : Addr} {odM1_4 anM1_4 : Option Addr} {slM1_4 : Array (Option Value)} {ocM1_4 kVM1_4 dcM1_4 pmM1_4 cdM1_4 ctM1_4 : Value}
  {fM1_5 : Addr} {odM1_5 anM1_5 : Option Addr} {slM1_5 : Array (Option Value)} {ocM1_5 kVM1_5 dcM1_5 pmM1_5 cdM1_5 ctM1_5 : Value}
  {C2 : Addr}
  {fM2_0 : Addr} {odM2_0 anM2_0 : Option Addr} {slM2_0 : Array (Option Value)} {ocM2_0 kVM2_0 dcM2_0 pmM2_0 cdM2_0 ctM2_0 : Value}
  {fM2_1 : Addr} {odM2_1 anM2_1 : Option Addr} {slM2_1 : Array (Option Value)} {ocM2_1 kVM2_1 dcM2_1 pmM2_1 cdM2_1 ctM2_1 : Value}
  {fM2_2 : Addr} {odM2_2 anM2_2 : Option Addr} {slM2_2 : Array (Option Value)} {ocM2_2 kVM2_2 dcM2_2 pmM2_2 cdM2_2 ctM2_2 : Value}
  {fM2_3 : Addr} {odM2_3 anM2_3 : Option Addr} {slM2_3 : Array (Option Value)} {ocM2_3 kVM2_3 dcM2_3 pmM2_3 cdM2_3 ctM2_3 : Value}
  {fM2_4 : Addr} {odM2_4 anM2_4 : Option Addr} {slM2_4 : Array (Option Value)} {ocM2_4 kVM2_4 dcM2_4 pmM2_4 cdM2_4 ctM2_4 : Value}
  {fM2_5 : Addr} {odM2_5 anM2_5 : Option Addr} {slM2_5 : Array (Option Value)} {ocM2_5 kVM2_5 dcM2_5 pmM2_5 cdM2_5 ctM2_5 : Value}
  {fM2_6 : Addr} {odM2_6 anM2_6 : Option Addr} {slM2_6 : Array (Option Value)} {ocM2_6 kVM2_6 dcM2_6 pmM2_6 cdM2_6 ctM2_6 : Value}
  {C3 : Addr}
  {fM3_0 : Addr} {odM3_0 anM3_0 : Option Addr} {slM3_0 : Array (Option Value)} {ocM3_0 kVM3_0 dcM3_0 pmM3_0 cdM3_0 ctM3_0 : Value}
  {fM3_1 : Addr} {odM3_1 anM3_1 : Option Addr} {slM3_1 : Array (Option Value)} {ocM3_1 kVM3_1 dcM3_1 pmM3_1 cdM3_1 ctM3_1 : Value}
  {fM3_2 : Addr} {odM3_2 anM3_2 : Option Addr} {slM3_2 : Array (Option Value)} {ocM3_2 kVM3_2 dcM3_2 pmM3_2 cdM3_2 ctM3_2 : Value}
  {fM3_3 : Addr} {odM3_3 anM3_3 : Option Addr} {slM3_3 : Array (Option Value)} {ocM3_3 kVM3_3 dcM3_3 pmM3_3 cdM3_3 ctM3_3 : Value}
  {fM3_4 : Addr} {odM3_4 anM3_4 : Option Addr} {slM3_4 : Array (Option Value)} {ocM3_4 kVM3_4 dcM3_4 pmM3_4 cdM3_4 ctM3_4 : Value}
  {fM3_5 : Addr} {odM3_5 anM3_5 : Option Addr} {slM3_5 : Array (Option Value)} {ocM3_5 kVM3_5 dcM3_5 pmM3_5 cdM3_5 ctM3_5 : Value}
  {fM3_6 : Addr} {odM3_6 anM3_6 : Option Addr} {slM3_6 : Array (Option Value)} {ocM3_6 kVM3_6 dcM3_6 pmM3_6 cdM3_6 ctM3_6 : Value}
  {fM3_7 : Addr} {odM3_7 anM3_7 : Option Addr} {slM3_7 : Array (Option Value)} {ocM3_7 kVM3_7 dcM3_7 pmM3_7 cdM3_7 ctM3_7 : Value}
  {fM3_8 : Addr} {odM3_8 anM3_8 : Option Addr} {slM3_8 : Array (Option Value)} {ocM3_8 kVM3_8 dcM3_8 pmM3_8 cdM3_8 ctM3_8 : Value}
  {fM3_9 : Addr} {odM3_9 anM3_9 : Option Addr} {slM3_9 : Array (Option Value)} {ocM3_9 kVM3_9 dcM3_9 pmM3_9 cdM3_9 ctM3_9 : Value}
  {fM3_10 : Addr} {odM3_10 anM3_10 : Option Addr} {slM3_10 : Array (Option Value)} {ocM3_10 kVM3_10 dcM3_10 pmM3_10 cdM3_10 ctM3_10 : Value}
  {fM3_11 : Addr} {odM3_11 anM3_11 : Option Addr} {slM3_11 : Array (Option Value)} {ocM3_11 kVM3_11 dcM3_11 pmM3_11 cdM3_11 ctM3_11 : Value}
  {fM3_12 : Addr} {odM3_12 anM3_12 : Option Addr} {slM3_12 : Array (Option Value)} {ocM3_12 kVM3_12 dcM3_12 pmM3_12 cdM3_12 ctM3_12 : Value}
  {fM3_13 : Addr} {odM3_13 anM3_13 : Option Addr} {slM3_13 : Array (Option Value)} {ocM3_13 kVM3_13 dcM3_13 pmM3_13 cdM3_13 ctM3_13 : Value}
  {fM3_14 : Addr} {odM3_14 anM3_14 : Option Addr} {slM3_14 : Array (Option Value)} {ocM3_14 kVM3_14 dcM3_14 pmM3_14 cdM3_14 ctM3_14 : Value}
  {C4 : Addr}
  {fM4_0 : Addr} {odM4_0 anM4_0 : Option Addr} {slM4_0 : Array (Option Value)} {ocM4_0 kVM4_0 dcM4_0 pmM4_0 cdM4_0 ctM4_0 : Value}
  {fM4_1 : Addr} {odM4_1 anM4_1 : Option Addr} {slM4_1 : Array (Option Value)} {ocM4_1 kVM4_1 dcM4_1 pmM4_1 cdM4_1 ctM4_1 : Value}
  {fM4_2 : Addr} {odM4_2 anM4_2 : Option Addr} {slM4_2 : Array (Option Value)} {ocM4_2 kVM4_2 dcM4_2 pmM4_2 cdM4_2 ctM4_2 : Value}
  {fM4_3 : Addr} {odM4_3 anM4_3 : Option Addr} {slM4_3 : Array (Option Value)} {ocM4_3 kVM4_3 dcM4_3 pmM4_3 cdM4_3 ctM4_3 : Value}
  {fM4_4 : Addr} {odM4_4 anM4_4 : Option Addr} {slM4_4 : Array (Option Value)} {ocM4_4 kVM4_4 dcM4_4 pmM4_4 cdM4_4 ctM4_4 : Value}
  {tK0 : Tok}
  {tK1 : Tok}
  {tK2 : Tok}
  {tK3 : Tok}
  {tK4 : Tok}
  {tK5 : Tok}
  {tK6 : Tok}
  {tK7 : Tok}
  {eK8 : Addr} {oK8 : Option Addr} {vK8 : Array Value} {nK8 : Nat} {sK8 : Array (Option Value)}
  {eK8_0 : Addr}
  {eK8_1 : Addr}
  {eK8_2 : Addr}
  {eK8_3 : Addr}
  {eK8_4 : Addr}
  {eK8_5 : Addr}
  {eK8_6 : Addr}
  {oK8_0 : Option Addr} {vK8_0 : Array Value} {nK8_0 : Nat} {sK8_0 : Array (Option Value)}
  {oK8_1 : Option Addr} {vK8_1 : Array Value} {nK8_1 : Nat} {sK8_1 : Array (Option Value)}
  {oK8_2 : Option Addr} {vK8_2 : Array Value} {nK8_2 : Nat} {sK8_2 : Array (Option Value)}
  {oK8_3 : Option Addr} {vK8_3 : Array Value} {nK8_3 : Nat} {sK8_3 : Array (Option Value)}
  {oK8_4 : Option Addr} {vK8_4 : Array Value} {nK8_4 : Nat} {sK8_4 : Array (Option Value)}
  {oK8_5 : Option Addr} {vK8_5 : Array Value} {nK8_5 : Nat} {sK8_5 : Array (Option Value)}
  {oK8_6 : Option Addr} {vK8_6 : Array Value} {nK8_6 : Nat} {sK8_6 : Array (Option Value)}
  {eK9 : Addr} {oK9 : Option Addr} {vK9 : Array Value} {nK9 : Nat} {sK9 : Array (Option Value)}
  {eK9_0 : Addr}
  {eK9_1 : Addr}
  {eK9_2 : Addr}
  {oK9_0 : Option Addr} {vK9_0 : Array Value} {nK9_0 : Nat} {sK9_0 : Array (Option Value)}
  {oK9_1 : Option Addr} {vK9_1 : Array Value} {nK9_1 : Nat} {sK9_1 : Array (Option Value)}
  {oK9_2 : Option Addr} {vK9_2 : Array Value} {nK9_2 : Nat} {sK9_2 : Array (Option Value)}
  {tK10 : Tok}
  {tK11 : Tok}
  {tK12 : Tok}
  {tK13 : Tok}
  {tK14 : Tok}
  {tK15 : Tok}
  {tK16 : Tok}
  {tK17 : Tok}
  {tK18 : Tok}
  {tK19 : Tok}
  {tK20 : Tok}
  {tK21 : Tok}
  {tK22 : Tok}
  {tK23 : Tok}
  {tK24 : Tok}
  {tK25 : Tok}
  {tK26 : Tok}
  {tK27 : Tok}
  {tK28 : Tok}
  {tK29 : Tok}
  {eK30 : Addr} {oK30 : Option Addr} {vK30 : Array Value} {nK30 : Nat} {sK30 : Array (Option Value)}
  {eK31 : Addr} {dK31 : Array DictEntry} {nK31 : Nat}
  {eK32 : Addr} {dK32 : Array DictEntry} {nK32 : Nat}
  (X : K.In h) (G : h.Ns mainGlobals mg)
  (aG0 : PySem.W.nsIn K mainGlobals "are_in_range" = some (some (.ref fG0)))
  (lG0 : K.lookup fG0 = some ⟨ocG0, odG0, .func (PySem.W.fnOf "are_in_range" "are_in_range" (defArgs s_are_in_range) (defBody s_are_in_range) (defScope s_are_in_range) .none kVG0 dcG0 pmG0 anG0 cdG0 ctG0), slG0⟩)
  (cG0 : PySem.W.codeIn K cdG0 "are_in_range" = true)
  (kG0 : PySem.W.keepIn K (.ref fG0) = true)
  (aG1 : PySem.W.nsIn K mainGlobals "violated_condition" = some (some (.ref fG1)))
  (lG1 : K.lookup fG1 = some ⟨ocG1, odG1, .func (PySem.W.fnOf "violated_condition" "violated_condition" (defArgs s_violated_condition) (defBody s_violated_condition) (defScope s_violated_condition) .none kVG1 dcG1 pmG1 anG1 cdG1 ctG1), slG1⟩)
  (cG1 : PySem.W.codeIn K cdG1 "violated_condition" = true)
  (kG1 : PySem.W.keepIn K (.ref fG1) = true)
  (aG2 : PySem.W.nsIn K mainGlobals "are_safe" = some (some (.ref fG2)))
  (lG2 : K.lookup fG2 = some ⟨ocG2, odG2, .func (PySem.W.fnOf "are_safe" "are_safe" (defArgs s_are_safe) (defBody s_are_safe) (defScope s_are_safe) .none kVG2 dcG2 pmG2 anG2 cdG2 ctG2), slG2⟩)
  (cG2 : PySem.W.codeIn K cdG2 "are_safe" = true)
  (kG2 : PySem.W.keepIn K (.ref fG2) = true)
  (aG3 : PySem.W.nsIn K mainGlobals "failure_steps" = some (some (.ref fG3)))
  (lG3 : K.lookup fG3 = some ⟨ocG3, odG3, .func (PySem.W.fnOf "failure_steps" "failure_steps" (defArgs s_failure_steps) (defBody s_failure_steps) (defScope s_failure_steps) .none kVG3 dcG3 pmG3 anG3 cdG3 ctG3), slG3⟩)
  (cG3 : PySem.W.codeIn K cdG3 "failure_steps" = true)
  (kG3 : PySem.W.keepIn K (.ref fG3) = true)
  (aG4 : PySem.W.nsIn K mainGlobals "late_frame_steps" = some (some (.ref fG4)))
  (lG4 : K.lookup fG4 = some ⟨ocG4, odG4, .func (PySem.W.fnOf "late_frame_steps" "late_frame_steps" (defArgs s_late_frame_steps) (defBody s_late_frame_steps) (defScope s_late_frame_steps) .none kVG4 dcG4 pmG4 anG4 cdG4 ctG4), slG4⟩)
  (cG4 : PySem.W.codeIn K cdG4 "late_frame_steps" = true)
  (kG4 : PySem.W.keepIn K (.ref fG4) = true)
  (aG5 : PySem.W.nsIn K mainGlobals "late_ack_steps" = some (some (.ref fG5)))
  (lG5 : K.lookup fG5 = some ⟨ocG5, odG5, .func (PySem.W.fnOf "late_ack_steps" "late_ack_steps" (defArgs s_late_ack_steps) (defBody s_late_ack_steps) (defScope s_late_ack_steps) .none kVG5 dcG5 pmG5 anG5 cdG5 ctG5), slG5⟩)
  (cG5 : PySem.W.codeIn K cdG5 "late_ack_steps" = true)
  (kG5 : PySem.W.keepIn K (.ref fG5) = true)
  (aG6 : PySem.W.nsIn K mainGlobals "transfer_steps" = some (some (.ref fG6)))
  (lG6 : K.lookup fG6 = some ⟨ocG6, odG6, .func (PySem.W.fnOf "transfer_steps" "transfer_steps" (defArgs s_transfer_steps) (defBody s_transfer_steps) (defScope s_transfer_steps) .none kVG6 dcG6 pmG6 anG6 cdG6 ctG6), slG6⟩)
  (cG6 : PySem.W.codeIn K cdG6 "transfer_steps" = true)
  (kG6 : PySem.W.keepIn K (.ref fG6) = true)
  (aG7 : PySem.W.nsIn K mainGlobals "acknowledge_steps" = some (some (.ref fG7)))
  (lG7 : K.lookup fG7 = some ⟨ocG7, odG7, .func (PySem.W.fnOf "acknowledge_steps" "acknowledge_steps" (defArgs s_acknowledge_steps) (defBody s_acknowledge_steps) (defScope s_acknowledge_steps) .none kVG7 dcG7 pmG7 anG7 cdG7 ctG7), slG7⟩)
  (cG7 : PySem.W.codeIn K cdG7 "acknowledge_steps" = true)
  (kG7 : PySem.W.keepIn K (.ref fG7) = true)
  (aG8 : PySem.W.nsIn K mainGlobals "send_step" = some (some (.ref fG8)))
  (lG8 : K.lookup fG8 = some ⟨ocG8, odG8, .func (PySem.W.fnOf "send_step" "send_step" (defArgs s_send_step) (defBody s_send_step) (defScope s_send_step) .none kVG8 dcG8 pmG8 anG8 cdG8 ctG8), slG8⟩)
  (cG8 : PySem.W.codeIn K cdG8 "send_step" = true)
  (kG8 : PySem.W.keepIn K (.ref fG8) = true)
  (aG9 : PySem.W.nsIn K mainGlobals "is_item" = some (some (.ref fG9)))
  (lG9 : K.lookup fG9 = some ⟨ocG9, odG9, .func (PySem.W.fnOf "is_item" "is_item" (defArgs s_is_item) (defBody s_is_item) (defScope s_is_item) .none kVG9 dcG9 pmG9 anG9 cdG9 ctG9), slG9⟩)
  (cG9 : PySem.W.codeIn K cdG9 "is_item" = true)
  (kG9 : PySem.W.keepIn K (.ref fG9) = true)
  (aG10 : PySem.W.nsIn K mainGlobals "time_of" = some (some (.ref fG10)))
  (lG10 : K.lookup fG10 = some ⟨ocG10, odG10, .func (PySem.W.fnOf "time_of" "time_of" (defArgs s_time_of) (defBody s_time_of) (defScope s_time_of) .none kVG10 dcG10 pmG10 anG10 cdG10 ctG10), slG10⟩)
  (cG10 : PySem.W.codeIn K cdG10 "time_of" = true)
  (kG10 : PySem.W.keepIn K (.ref fG10) = true)
  (aG11 : PySem.W.nsIn K mainGlobals "all_within" = some (some (.ref fG11)))
  (lG11 : K.lookup fG11 = some ⟨ocG11, odG11, .func (PySem.W.fnOf "all_within" "all_within" (defArgs s_all_within) (defBody s_all_within) (defScope s_all_within) .none kVG11 dcG11 pmG11 anG11 cdG11 ctG11), slG11⟩)
  (cG11 : PySem.W.codeIn K cdG11 "all_within" = true)
  (kG11 : PySem.W.keepIn K (.ref fG11) = true)
  (aG12 : PySem.W.nsIn K mainGlobals "checksum_of" = some (some (.ref fG12)))
  (lG12 : K.lookup fG12 = some ⟨ocG12, odG12, .func (PySem.W.fnOf "checksum_of" "checksum_of" (defArgs s_checksum_of) (defBody s_checksum_of) (defScope s_checksum_of) .none kVG12 dcG12 pmG12 anG12 cdG12 ctG12), slG12⟩)
  (cG12 : PySem.W.codeIn K cdG12 "checksum_of" = true)
  (kG12 : PySem.W.keepIn K (.ref fG12) = true)
  (aG13 : PySem.W.nsIn K mainGlobals "number_meant" = some (some (.ref fG13)))
  (lG13 : K.lookup fG13 = some ⟨ocG13, odG13, .func (PySem.W.fnOf "number_meant" "number_meant" (defArgs s_number_meant) (defBody s_number_meant) (defScope s_number_meant) .none kVG13 dcG13 pmG13 anG13 cdG13 ctG13), slG13⟩)
  (cG13 : PySem.W.codeIn K cdG13 "number_meant" = true)
  (kG13 : PySem.W.keepIn K (.ref fG13) = true)
  (aG14 : PySem.W.nsIn K mainGlobals "new_link" = some (some (.ref fG14)))
  (lG14 : K.lookup fG14 = some ⟨ocG14, odG14, .func (PySem.W.fnOf "new_link" "new_link" (defArgs s_new_link) (defBody s_new_link) (defScope s_new_link) .none kVG14 dcG14 pmG14 anG14 cdG14 ctG14), slG14⟩)
  (cG14 : PySem.W.codeIn K cdG14 "new_link" = true)
  (kG14 : PySem.W.keepIn K (.ref fG14) = true)
  (aG15 : PySem.W.nsIn K mainGlobals "send_item" = some (some (.ref fG15)))
  (lG15 : K.lookup fG15 = some ⟨ocG15, odG15, .func (PySem.W.fnOf "send_item" "send_item" (defArgs s_send_item) (defBody s_send_item) (defScope s_send_item) .none kVG15 dcG15 pmG15 anG15 cdG15 ctG15), slG15⟩)
  (cG15 : PySem.W.codeIn K cdG15 "send_item" = true)
  (kG15 : PySem.W.keepIn K (.ref fG15) = true)
  (aG16 : PySem.W.nsIn K mainGlobals "retransmit" = some (some (.ref fG16)))
  (lG16 : K.lookup fG16 = some ⟨ocG16, odG16, .func (PySem.W.fnOf "retransmit" "retransmit" (defArgs s_retransmit) (defBody s_retransmit) (defScope s_retransmit) .none kVG16 dcG16 pmG16 anG16 cdG16 ctG16), slG16⟩)
  (cG16 : PySem.W.codeIn K cdG16 "retransmit" = true)
  (kG16 : PySem.W.keepIn K (.ref fG16) = true)
  (aG17 : PySem.W.nsIn K mainGlobals "deliver_frame" = some (some (.ref fG17)))
  (lG17 : K.lookup fG17 = some ⟨ocG17, odG17, .func (PySem.W.fnOf "deliver_frame" "deliver_frame" (defArgs s_deliver_frame) (defBody s_deliver_frame) (defScope s_deliver_frame) .none kVG17 dcG17 pmG17 anG17 cdG17 ctG17), slG17⟩)
  (cG17 : PySem.W.codeIn K cdG17 "deliver_frame" = true)
  (kG17 : PySem.W.keepIn K (.ref fG17) = true)
  (aG18 : PySem.W.nsIn K mainGlobals "lose_frame" = some (some (.ref fG18)))
  (lG18 : K.lookup fG18 = some ⟨ocG18, odG18, .func (PySem.W.fnOf "lose_frame" "lose_frame" (defArgs s_lose_frame) (defBody s_lose_frame) (defScope s_lose_frame) .none kVG18 dcG18 pmG18 anG18 cdG18 ctG18), slG18⟩)
  (cG18 : PySem.W.codeIn K cdG18 "lose_frame" = true)
  (kG18 : PySem.W.keepIn K (.ref fG18) = true)
  (aG19 : PySem.W.nsIn K mainGlobals "corrupt_frame" = some (some (.ref fG19)))
  (lG19 : K.lookup fG19 = some ⟨ocG19, odG19, .func (PySem.W.fnOf "corrupt_frame" "corrupt_frame" (defArgs s_corrupt_frame) (defBody s_corrupt_frame) (defScope s_corrupt_frame) .none kVG19 dcG19 pmG19 anG19 cdG19 ctG19), slG19⟩)
  (cG19 : PySem.W.codeIn K cdG19 "corrupt_frame" = true)
  (kG19 : PySem.W.keepIn K (.ref fG19) = true)
  (aG20 : PySem.W.nsIn K mainGlobals "send_ack" = some (some (.ref fG20)))
  (lG20 : K.lookup fG20 = some ⟨ocG20, odG20, .func (PySem.W.fnOf "send_ack" "send_ack" (defArgs s_send_ack) (defBody s_send_ack) (defScope s_send_ack) .none kVG20 dcG20 pmG20 anG20 cdG20 ctG20), slG20⟩)
  (cG20 : PySem.W.codeIn K cdG20 "send_ack" = true)
  (kG20 : PySem.W.keepIn K (.ref fG20) = true)
  (aG21 : PySem.W.nsIn K mainGlobals "deliver_ack" = some (some (.ref fG21)))
  (lG21 : K.lookup fG21 = some ⟨ocG21, odG21, .func (PySem.W.fnOf "deliver_ack" "deliver_ack" (defArgs s_deliver_ack) (defBody s_deliver_ack) (defScope s_deliver_ack) .none kVG21 dcG21 pmG21 anG21 cdG21 ctG21), slG21⟩)
  (cG21 : PySem.W.codeIn K cdG21 "deliver_ack" = true)
  (kG21 : PySem.W.keepIn K (.ref fG21) = true)
  (aG22 : PySem.W.nsIn K mainGlobals "lose_ack" = some (some (.ref fG22)))
  (lG22 : K.lookup fG22 = some ⟨ocG22, odG22, .func (PySem.W.fnOf "lose_ack" "lose_ack" (defArgs s_lose_ack) (defBody s_lose_ack) (defScope s_lose_ack) .none kVG22 dcG22 pmG22 anG22 cdG22 ctG22), slG22⟩)
  (cG22 : PySem.W.codeIn K cdG22 "lose_ack" = true)
  (kG22 : PySem.W.keepIn K (.ref fG22) = true)
  (aG23 : PySem.W.nsIn K mainGlobals "corrupt_ack" = some (some (.ref fG23)))
  (lG23 : K.lookup fG23 = some ⟨ocG23, odG23, .func (PySem.W.fnOf "corrupt_ack" "corrupt_ack" (defArgs s_corrupt_ack) (defBody s_corrupt_ack) (defScope s_corrupt_ack) .none kVG23 dcG23 pmG23 anG23 cdG23 ctG23), slG23⟩)
  (cG23 : PySem.W.codeIn K cdG23 "corrupt_ack" = true)
  (kG23 : PySem.W.keepIn K (.ref fG23) = true)
  (aG24 : PySem.W.nsIn K mainGlobals "list_frames" = some (some (.ref fG24)))
  (lG24 : K.lookup fG24 = some ⟨ocG24, odG24, .func (PySem.W.fnOf "list_frames" "list_frames" (defArgs s_list_frames) (defBody s_list_frames) (defScope s_list_frames) .none kVG24 dcG24 pmG24 anG24 cdG24 ctG24), slG24⟩)
  (cG24 : PySem.W.codeIn K cdG24 "list_frames" = true)
  (kG24 : PySem.W.keepIn K (.ref fG24) = true)
  (aG25 : PySem.W.nsIn K mainGlobals "list_acks" = some (some (.ref fG25)))
  (lG25 : K.lookup fG25 = some ⟨ocG25, odG25, .func (PySem.W.fnOf "list_acks" "list_acks" (defArgs s_list_acks) (defBody s_list_acks) (defScope s_list_acks) .none kVG25 dcG25 pmG25 anG25 cdG25 ctG25), slG25⟩)
  (cG25 : PySem.W.codeIn K cdG25 "list_acks" = true)
  (kG25 : PySem.W.keepIn K (.ref fG25) = true)
  (aG26 : PySem.W.nsIn K mainGlobals "sender_state" = some (some (.ref fG26)))
  (lG26 : K.lookup fG26 = some ⟨ocG26, odG26, .func (PySem.W.fnOf "sender_state" "sender_state" (defArgs s_sender_state) (defBody s_sender_state) (defScope s_sender_state) .none kVG26 dcG26 pmG26 anG26 cdG26 ctG26), slG26⟩)
  (cG26 : PySem.W.codeIn K cdG26 "sender_state" = true)
  (kG26 : PySem.W.keepIn K (.ref fG26) = true)
  (aG27 : PySem.W.nsIn K mainGlobals "receiver_state" = some (some (.ref fG27)))
  (lG27 : K.lookup fG27 = some ⟨ocG27, odG27, .func (PySem.W.fnOf "receiver_state" "receiver_state" (defArgs s_receiver_state) (defBody s_receiver_state) (defScope s_receiver_state) .none kVG27 dcG27 pmG27 anG27 cdG27 ctG27), slG27⟩)
  (cG27 : PySem.W.codeIn K cdG27 "receiver_state" = true)
  (kG27 : PySem.W.keepIn K (.ref fG27) = true)
  (aG28 : PySem.W.nsIn K mainGlobals "list_delivered" = some (some (.ref fG28)))
  (lG28 : K.lookup fG28 = some ⟨ocG28, odG28, .func (PySem.W.fnOf "list_delivered" "list_delivered" (defArgs s_list_delivered) (defBody s_list_delivered) (defScope s_list_delivered) .none kVG28 dcG28 pmG28 anG28 cdG28 ctG28), slG28⟩)
  (cG28 : PySem.W.codeIn K cdG28 "list_delivered" = true)
  (kG28 : PySem.W.keepIn K (.ref fG28) = true)
  (aG29 : PySem.W.nsIn K mainGlobals "list_in_transit" = some (some (.ref fG29)))
  (lG29 : K.lookup fG29 = some ⟨ocG29, odG29, .func (PySem.W.fnOf "list_in_transit" "list_in_transit" (defArgs s_list_in_transit) (defBody s_list_in_transit) (defScope s_list_in_transit) .none kVG29 dcG29 pmG29 anG29 cdG29 ctG29), slG29⟩)
  (cG29 : PySem.W.codeIn K cdG29 "list_in_transit" = true)
  (kG29 : PySem.W.keepIn K (.ref fG29) = true)
  (aG30 : PySem.W.nsIn K mainGlobals "minimum_times" = some (some (.ref fG30)))
  (lG30 : K.lookup fG30 = some ⟨ocG30, odG30, .func (PySem.W.fnOf "minimum_times" "minimum_times" (defArgs s_minimum_times) (defBody s_minimum_times) (defScope s_minimum_times) .none kVG30 dcG30 pmG30 anG30 cdG30 ctG30), slG30⟩)
  (cG30 : PySem.W.codeIn K cdG30 "minimum_times" = true)
  (kG30 : PySem.W.keepIn K (.ref fG30) = true)
  (aG31 : PySem.W.nsIn K mainGlobals "drop_below" = some (some (.ref fG31)))
  (lG31 : K.lookup fG31 = some ⟨ocG31, odG31, .func (PySem.W.fnOf "drop_below" "drop_below" (defArgs s_drop_below) (defBody s_drop_below) (defScope s_drop_below) .none kVG31 dcG31 pmG31 anG31 cdG31 ctG31), slG31⟩)
  (cG31 : PySem.W.codeIn K cdG31 "drop_below" = true)
  (kG31 : PySem.W.keepIn K (.ref fG31) = true)
  (aG32 : PySem.W.nsIn K mainGlobals "check_parameters" = some (some (.ref fG32)))
  (lG32 : K.lookup fG32 = some ⟨ocG32, odG32, .func (PySem.W.fnOf "check_parameters" "check_parameters" (defArgs s_check_parameters) (defBody s_check_parameters) (defScope s_check_parameters) .none kVG32 dcG32 pmG32 anG32 cdG32 ctG32), slG32⟩)
  (cG32 : PySem.W.codeIn K cdG32 "check_parameters" = true)
  (kG32 : PySem.W.keepIn K (.ref fG32) = true)
  (aG33 : PySem.W.nsIn K mainGlobals "find_failure" = some (some (.ref fG33)))
  (lG33 : K.lookup fG33 = some ⟨ocG33, odG33, .func (PySem.W.fnOf "find_failure" "find_failure" (defArgs s_find_failure) (defBody s_find_failure) (defScope s_find_failure) .none kVG33 dcG33 pmG33 anG33 cdG33 ctG33), slG33⟩)
  (cG33 : PySem.W.codeIn K cdG33 "find_failure" = true)
  (kG33 : PySem.W.keepIn K (.ref fG33) = true)
  (aG34 : PySem.W.nsIn K mainGlobals "recover" = some (some (.ref fG34)))
  (lG34 : K.lookup fG34 = some ⟨ocG34, odG34, .func (PySem.W.fnOf "recover" "recover" (defArgs s_recover) (defBody s_recover) (defScope s_recover) .none kVG34 dcG34 pmG34 anG34 cdG34 ctG34), slG34⟩)
  (cG34 : PySem.W.codeIn K cdG34 "recover" = true)
  (kG34 : PySem.W.keepIn K (.ref fG34) = true)
  (aG35 : PySem.W.nsIn K mainGlobals "get_counts" = some (some (.ref fG35)))
  (lG35 : K.lookup fG35 = some ⟨ocG35, odG35, .func (PySem.W.fnOf "get_counts" "get_counts" (defArgs s_get_counts) (defBody s_get_counts) (defScope s_get_counts) .none kVG35 dcG35 pmG35 anG35 cdG35 ctG35), slG35⟩)
  (cG35 : PySem.W.codeIn K cdG35 "get_counts" = true)
  (kG35 : PySem.W.keepIn K (.ref fG35) = true)
  (aG36 : PySem.W.nsIn K mainGlobals "told_list" = some (some (.ref fG36)))
  (lG36 : K.lookup fG36 = some ⟨ocG36, odG36, .func (PySem.W.fnOf "told_list" "told_list" (defArgs s_told_list) (defBody s_told_list) (defScope s_told_list) .none kVG36 dcG36 pmG36 anG36 cdG36 ctG36), slG36⟩)
  (cG36 : PySem.W.codeIn K cdG36 "told_list" = true)
  (kG36 : PySem.W.keepIn K (.ref fG36) = true)
  (aG37 : PySem.W.nsIn K mainGlobals "told_minimum" = some (some (.ref fG37)))
  (lG37 : K.lookup fG37 = some ⟨ocG37, odG37, .func (PySem.W.fnOf "told_minimum" "told_minimum" (defArgs s_told_minimum) (defBody s_told_minimum) (defScope s_told_minimum) .none kVG37 dcG37 pmG37 anG37 cdG37 ctG37), slG37⟩)
  (cG37 : PySem.W.codeIn K cdG37 "told_minimum" = true)
  (kG37 : PySem.W.keepIn K (.ref fG37) = true)
  (aG38 : PySem.W.nsIn K mainGlobals "times_in_transit" = some (some (.ref fG38)))
  (lG38 : K.lookup fG38 = some ⟨ocG38, odG38, .func (PySem.W.fnOf "times_in_transit" "times_in_transit" (defArgs s_times_in_transit) (defBody s_times_in_transit) (defScope s_times_in_transit) .none kVG38 dcG38 pmG38 anG38 cdG38 ctG38), slG38⟩)
  (cG38 : PySem.W.codeIn K cdG38 "times_in_transit" = true)
  (kG38 : PySem.W.keepIn K (.ref fG38) = true)
  (aG39 : PySem.W.nsIn K mainGlobals "refused_delivery" = some (some (.ref fG39)))
  (lG39 : K.lookup fG39 = some ⟨ocG39, odG39, .func (PySem.W.fnOf "refused_delivery" "refused_delivery" (defArgs s_refused_delivery) (defBody s_refused_delivery) (defScope s_refused_delivery) .none kVG39 dcG39 pmG39 anG39 cdG39 ctG39), slG39⟩)
  (cG39 : PySem.W.codeIn K cdG39 "refused_delivery" = true)
  (kG39 : PySem.W.keepIn K (.ref fG39) = true)
  (aG40 : PySem.W.nsIn K mainGlobals "taken_packet" = some (some (.ref fG40)))
  (lG40 : K.lookup fG40 = some ⟨ocG40, odG40, .func (PySem.W.fnOf "taken_packet" "taken_packet" (defArgs s_taken_packet) (defBody s_taken_packet) (defScope s_taken_packet) .none kVG40 dcG40 pmG40 anG40 cdG40 ctG40), slG40⟩)
  (cG40 : PySem.W.codeIn K cdG40 "taken_packet" = true)
  (kG40 : PySem.W.keepIn K (.ref fG40) = true)
  (aG41 : PySem.W.nsIn K mainGlobals "lose_packet" = some (some (.ref fG41)))
  (lG41 : K.lookup fG41 = some ⟨ocG41, odG41, .func (PySem.W.fnOf "lose_packet" "lose_packet" (defArgs s_lose_packet) (defBody s_lose_packet) (defScope s_lose_packet) .none kVG41 dcG41 pmG41 anG41 cdG41 ctG41), slG41⟩)
  (cG41 : PySem.W.codeIn K cdG41 "lose_packet" = true)
  (kG41 : PySem.W.keepIn K (.ref fG41) = true)
  (aG42 : PySem.W.nsIn K mainGlobals "corrupt_packet" = some (some (.ref fG42)))
  (lG42 : K.lookup fG42 = some ⟨ocG42, odG42, .func (PySem.W.fnOf "corrupt_packet" "corrupt_packet" (defArgs s_corrupt_packet) (defBody s_corrupt_packet) (defScope s_corrupt_packet) .none kVG42 dcG42 pmG42 anG42 cdG42 ctG42), slG42⟩)
  (cG42 : PySem.W.codeIn K cdG42 "corrupt_packet" = true)
  (kG42 : PySem.W.keepIn K (.ref fG42) = true)
  (aG43 : PySem.W.nsIn K mainGlobals "packet_list" = some (some (.ref fG43)))
  (lG43 : K.lookup fG43 = some ⟨ocG43, odG43, .func (PySem.W.fnOf "packet_list" "packet_list" (defArgs s_packet_list) (defBody s_packet_list) (defScope s_packet_list) .none kVG43 dcG43 pmG43 anG43 cdG43 ctG43), slG43⟩)
  (cG43 : PySem.W.codeIn K cdG43 "packet_list" = true)
  (kG43 : PySem.W.keepIn K (.ref fG43) = true)
  (aG44 : PySem.W.nsIn K mainGlobals "answers" = some (some (.ref fG44)))
  (lG44 : K.lookup fG44 = some ⟨ocG44, odG44, .func (PySem.W.fnOf "answers" "answers" (defArgs s_answers) (defBody s_answers) (defScope s_answers) .none kVG44 dcG44 pmG44 anG44 cdG44 ctG44), slG44⟩)
  (cG44 : PySem.W.codeIn K cdG44 "answers" = true)
  (kG44 : PySem.W.keepIn K (.ref fG44) = true)
  (aG45 : PySem.W.nsIn K mainGlobals "answer_call" = some (some (.ref fG45)))
  (lG45 : K.lookup fG45 = some ⟨ocG45, odG45, .func (PySem.W.fnOf "answer_call" "answer_call" (defArgs s_answer_call) (defBody s_answer_call) (defScope s_answer_call) .none kVG45 dcG45 pmG45 anG45 cdG45 ctG45), slG45⟩)
  (cG45 : PySem.W.codeIn K cdG45 "answer_call" = true)
  (kG45 : PySem.W.keepIn K (.ref fG45) = true)
  (aC0 : PySem.W.nsIn K mainGlobals "Packet" = some (some (.ref C0)))
  (pgC0 : PySem.W.plainGet K C0 Str.empty = true)
  (hdC0 : PySem.W.hasDictIn K C0 = true)
  (poC0 : PySem.W.plainOver K C0 = true)
  (saC0 : PySem.W.findIn K (.ref C0) "__setattr__" = some (some (.builtin "object.__setattr__")))
  (mkC0 : PySem.W.makesIn K C0 = true)
  (kcC0 : PySem.W.keepIn K (.ref C0) = true)
  (nfC0_0 : PySem.W.findIn K (.ref C0) "fields" = some none)
  (nfC0_1 : PySem.W.findIn K (.ref C0) "checksum" = some none)
  (nfC0_2 : PySem.W.findIn K (.ref C0) "sent_before" = some none)
  (aM0_0 : PySem.W.findIn K (.ref C0) "__init__" = some (some (.ref fM0_0)))
  (iM0_0 : PySem.W.isFn K (.ref fM0_0) = true)
  (lM0_0 : K.lookup fM0_0 = some ⟨ocM0_0, odM0_0, .func (PySem.W.fnOf "__init__" "Packet.__init__" (defArgs s_Packet_init) (defBody s_Packet_init) (defScope s_Packet_init) .none kVM0_0 dcM0_0 pmM0_0 anM0_0 cdM0_0 ctM0_0), slM0_0⟩)
  (cM0_0 : PySem.W.codeIn K cdM0_0 "Packet.__init__" = true)
  (kM0_0 : PySem.W.keepIn K (.ref fM0_0) = true)
  (aM0_1 : PySem.W.findIn K (.ref C0) "is_corrupted" = some (some (.ref fM0_1)))
  (iM0_1 : PySem.W.isFn K (.ref fM0_1) = true)
  (lM0_1 : K.lookup fM0_1 = some ⟨ocM0_1, odM0_1, .func (PySem.W.fnOf "is_corrupted" "Packet.is_corrupted" (defArgs s_Packet_is_corrupted) (defBody s_Packet_is_corrupted) (defScope s_Packet_is_corrupted) .none kVM0_1 dcM0_1 pmM0_1 anM0_1 cdM0_1 ctM0_1), slM0_1⟩)
  (cM0_1 : PySem.W.codeIn K cdM0_1 "Packet.is_corrupted" = true)
  (kM0_1 : PySem.W.keepIn K (.ref fM0_1) = true)
  (aM0_2 : PySem.W.findIn K (.ref C0) "has_place" = some (some (.ref fM0_2)))
  (iM0_2 : PySem.W.isFn K (.ref fM0_2) = true)
  (lM0_2 : K.lookup fM0_2 = some ⟨ocM0_2, odM0_2, .func (PySem.W.fnOf "has_place" "Packet.has_place" (defArgs s_Packet_has_place) (defBody s_Packet_has_place) (defScope s_Packet_has_place) .none kVM0_2 dcM0_2 pmM0_2 anM0_2 cdM0_2 ctM0_2), slM0_2⟩)
  (cM0_2 : PySem.W.codeIn K cdM0_2 "Packet.has_place" = true)
  (kM0_2 : PySem.W.keepIn K (.ref fM0_2) = true)
  (aM0_3 : PySem.W.findIn K (.ref C0) "change" = some (some (.ref fM0_3)))
  (iM0_3 : PySem.W.isFn K (.ref fM0_3) = true)
  (lM0_3 : K.lookup fM0_3 = some ⟨ocM0_3, odM0_3, .func (PySem.W.fnOf "change" "Packet.change" (defArgs s_Packet_change) (defBody s_Packet_change) (defScope s_Packet_change) .none kVM0_3 dcM0_3 pmM0_3 anM0_3 cdM0_3 ctM0_3), slM0_3⟩)
  (cM0_3 : PySem.W.codeIn K cdM0_3 "Packet.change" = true)
  (kM0_3 : PySem.W.keepIn K (.ref fM0_3) = true)
  (aC1 : PySem.W.nsIn K mainGlobals "Channel" = some (some (.ref C1)))
  (pgC1 : PySem.W.plainGet K C1 Str.empty = true)
  (hdC1 : PySem.W.hasDictIn K C1 = true)
  (poC1 : PySem.W.plainOver K C1 = true)
  (saC1 : PySem.W.findIn K (.ref C1) "__setattr__" = some (some (.builtin "object.__setattr__")))
  (mkC1 : PySem.W.makesIn K C1 = true)
  (kcC1 : PySem.W.keepIn K (.ref C1) = true)
  (nfC1_0 : PySem.W.findIn K (.ref C1) "lifetime" = some none)
  (nfC1_1 : PySem.W.findIn K (.ref C1) "sent_count" = some none)
  (nfC1_2 : PySem.W.findIn K (.ref C1) "packets" = some none)
  (aM1_0 : PySem.W.findIn K (.ref C1) "__init__" = some (some (.ref fM1_0)))
  (iM1_0 : PySem.W.isFn K (.ref fM1_0) = true)
  (lM1_0 : K.lookup fM1_0 = some ⟨ocM1_0, odM1_0, .func (PySem.W.fnOf "__init__" "Channel.__init__" (defArgs s_Channel_init) (defBody s_Channel_init) (defScope s_Channel_init) .none kVM1_0 dcM1_0 pmM1_0 anM1_0 cdM1_0 ctM1_0), slM1_0⟩)
  (cM1_0 : PySem.W.codeIn K cdM1_0 "Channel.__init__" = true)
  (kM1_0 : PySem.W.keepIn K (.ref fM1_0) = true)
  (aM1_1 : PySem.W.findIn K (.ref C1) "send" = some (some (.ref fM1_1)))
  (iM1_1 : PySem.W.isFn K (.ref fM1_1) = true)
  (lM1_1 : K.lookup fM1_1 = some ⟨ocM1_1, odM1_1, .func (PySem.W.fnOf "send" "Channel.send" (defArgs s_Channel_send) (defBody s_Channel_send) (defScope s_Channel_send) .none kVM1_1 dcM1_1 pmM1_1 anM1_1 cdM1_1 ctM1_1), slM1_1⟩)
  (cM1_1 : PySem.W.codeIn K cdM1_1 "Channel.send" = true)
  (kM1_1 : PySem.W.keepIn K (.ref fM1_1) = true)
  (aM1_2 : PySem.W.findIn K (.ref C1) "holds" = some (some (.ref fM1_2)))
  (iM1_2 : PySem.W.isFn K (.ref fM1_2) = true)
  (lM1_2 : K.lookup fM1_2 = some ⟨ocM1_2, odM1_2, .func (PySem.W.fnOf "holds" "Channel.holds" (defArgs s_Channel_holds) (defBody s_Channel_holds) (defScope s_Channel_holds) .none kVM1_2 dcM1_2 pmM1_2 anM1_2 cdM1_2 ctM1_2), slM1_2⟩)
  (cM1_2 : PySem.W.codeIn K cdM1_2 "Channel.holds" = true)
  (kM1_2 : PySem.W.keepIn K (.ref fM1_2) = true)
  (aM1_3 : PySem.W.findIn K (.ref C1) "packet_at" = some (some (.ref fM1_3)))
  (iM1_3 : PySem.W.isFn K (.ref fM1_3) = true)
  (lM1_3 : K.lookup fM1_3 = some ⟨ocM1_3, odM1_3, .func (PySem.W.fnOf "packet_at" "Channel.packet_at" (defArgs s_Channel_packet_at) (defBody s_Channel_packet_at) (defScope s_Channel_packet_at) .none kVM1_3 dcM1_3 pmM1_3 anM1_3 cdM1_3 ctM1_3), slM1_3⟩)
  (cM1_3 : PySem.W.codeIn K cdM1_3 "Channel.packet_at" = true)
  (kM1_3 : PySem.W.keepIn K (.ref fM1_3) = true)
  (aM1_4 : PySem.W.findIn K (.ref C1) "lose" = some (some (.ref fM1_4)))
  (iM1_4 : PySem.W.isFn K (.ref fM1_4) = true)
  (lM1_4 : K.lookup fM1_4 = some ⟨ocM1_4, odM1_4, .func (PySem.W.fnOf "lose" "Channel.lose" (defArgs s_Channel_lose) (defBody s_Channel_lose) (defScope s_Channel_lose) .none kVM1_4 dcM1_4 pmM1_4 anM1_4 cdM1_4 ctM1_4), slM1_4⟩)
  (cM1_4 : PySem.W.codeIn K cdM1_4 "Channel.lose" = true)
  (kM1_4 : PySem.W.keepIn K (.ref fM1_4) = true)
  (aM1_5 : PySem.W.findIn K (.ref C1) "take_newest" = some (some (.ref fM1_5)))
  (iM1_5 : PySem.W.isFn K (.ref fM1_5) = true)
  (lM1_5 : K.lookup fM1_5 = some ⟨ocM1_5, odM1_5, .func (PySem.W.fnOf "take_newest" "Channel.take_newest" (defArgs s_Channel_take_newest) (defBody s_Channel_take_newest) (defScope s_Channel_take_newest) .none kVM1_5 dcM1_5 pmM1_5 anM1_5 cdM1_5 ctM1_5), slM1_5⟩)
  (cM1_5 : PySem.W.codeIn K cdM1_5 "Channel.take_newest" = true)
  (kM1_5 : PySem.W.keepIn K (.ref fM1_5) = true)
  (aC2 : PySem.W.nsIn K mainGlobals "Receiver" = some (some (.ref C2)))
  (pgC2 : PySem.W.plainGet K C2 Str.empty = true)
  (hdC2 : PySem.W.hasDictIn K C2 = true)
  (poC2 : PySem.W.plainOver K C2 = true)
  (saC2 : PySem.W.findIn K (.ref C2) "__setattr__" = some (some (.builtin "object.__setattr__")))
  (mkC2 : PySem.W.makesIn K C2 = true)
  (kcC2 : PySem.W.keepIn K (.ref C2) = true)
  (nfC2_0 : PySem.W.findIn K (.ref C2) "window_size" = some none)
  (nfC2_1 : PySem.W.findIn K (.ref C2) "modulus" = some none)
  (nfC2_2 : PySem.W.findIn K (.ref C2) "ordered" = some none)
  (nfC2_3 : PySem.W.findIn K (.ref C2) "lowest_missing" = some none)
  (nfC2_4 : PySem.W.findIn K (.ref C2) "received" = some none)
  (nfC2_5 : PySem.W.findIn K (.ref C2) "delivered" = some none)
  (aM2_0 : PySem.W.findIn K (.ref C2) "__init__" = some (some (.ref fM2_0)))
  (iM2_0 : PySem.W.isFn K (.ref fM2_0) = true)
  (lM2_0 : K.lookup fM2_0 = some ⟨ocM2_0, odM2_0, .func (PySem.W.fnOf "__init__" "Receiver.__init__" (defArgs s_Receiver_init) (defBody s_Receiver_init) (defScope s_Receiver_init) .none kVM2_0 dcM2_0 pmM2_0 anM2_0 cdM2_0 ctM2_0), slM2_0⟩)
  (cM2_0 : PySem.W.codeIn K cdM2_0 "Receiver.__init__" = true)
  (kM2_0 : PySem.W.keepIn K (.ref fM2_0) = true)
  (aM2_1 : PySem.W.findIn K (.ref C2) "receive_frame" = some (some (.ref fM2_1)))
  (iM2_1 : PySem.W.isFn K (.ref fM2_1) = true)
  (lM2_1 : K.lookup fM2_1 = some ⟨ocM2_1, odM2_1, .func (PySem.W.fnOf "receive_frame" "Receiver.receive_frame" (defArgs s_Receiver_receive_frame) (defBody s_Receiver_receive_frame) (defScope s_Receiver_receive_frame) .none kVM2_1 dcM2_1 pmM2_1 anM2_1 cdM2_1 ctM2_1), slM2_1⟩)
  (cM2_1 : PySem.W.codeIn K cdM2_1 "Receiver.receive_frame" = true)
  (kM2_1 : PySem.W.keepIn K (.ref fM2_1) = true)
  (aM2_2 : PySem.W.findIn K (.ref C2) "pass_received" = some (some (.ref fM2_2)))
  (iM2_2 : PySem.W.isFn K (.ref fM2_2) = true)
  (lM2_2 : K.lookup fM2_2 = some ⟨ocM2_2, odM2_2, .func (PySem.W.fnOf "pass_received" "Receiver.pass_received" (defArgs s_Receiver_pass_received) (defBody s_Receiver_pass_received) (defScope s_Receiver_pass_received) .none kVM2_2 dcM2_2 pmM2_2 anM2_2 cdM2_2 ctM2_2), slM2_2⟩)
  (cM2_2 : PySem.W.codeIn K cdM2_2 "Receiver.pass_received" = true)
  (kM2_2 : PySem.W.keepIn K (.ref fM2_2) = true)
  (aM2_3 : PySem.W.findIn K (.ref C2) "deliver" = some (some (.ref fM2_3)))
  (iM2_3 : PySem.W.isFn K (.ref fM2_3) = true)
  (lM2_3 : K.lookup fM2_3 = some ⟨ocM2_3, odM2_3, .func (PySem.W.fnOf "deliver" "Receiver.deliver" (defArgs s_Receiver_deliver) (defBody s_Receiver_deliver) (defScope s_Receiver_deliver) .none kVM2_3 dcM2_3 pmM2_3 anM2_3 cdM2_3 ctM2_3), slM2_3⟩)
  (cM2_3 : PySem.W.codeIn K cdM2_3 "Receiver.deliver" = true)
  (kM2_3 : PySem.W.keepIn K (.ref fM2_3) = true)
  (aM2_4 : PySem.W.findIn K (.ref C2) "has_delivered" = some (some (.ref fM2_4)))
  (iM2_4 : PySem.W.isFn K (.ref fM2_4) = true)
  (lM2_4 : K.lookup fM2_4 = some ⟨ocM2_4, odM2_4, .func (PySem.W.fnOf "has_delivered" "Receiver.has_delivered" (defArgs s_Receiver_has_delivered) (defBody s_Receiver_has_delivered) (defScope s_Receiver_has_delivered) .none kVM2_4 dcM2_4 pmM2_4 anM2_4 cdM2_4 ctM2_4), slM2_4⟩)
  (cM2_4 : PySem.W.codeIn K cdM2_4 "Receiver.has_delivered" = true)
  (kM2_4 : PySem.W.keepIn K (.ref fM2_4) = true)
  (aM2_5 : PySem.W.findIn K (.ref C2) "received_above" = some (some (.ref fM2_5)))
  (iM2_5 : PySem.W.isFn K (.ref fM2_5) = true)
  (lM2_5 : K.lookup fM2_5 = some ⟨ocM2_5, odM2_5, .func (PySem.W.fnOf "received_above" "Receiver.received_above" (defArgs s_Receiver_received_above) (defBody s_Receiver_received_above) (defScope s_Receiver_received_above) .none kVM2_5 dcM2_5 pmM2_5 anM2_5 cdM2_5 ctM2_5), slM2_5⟩)
  (cM2_5 : PySem.W.codeIn K cdM2_5 "Receiver.received_above" = true)
  (kM2_5 : PySem.W.keepIn K (.ref fM2_5) = true)
  (aM2_6 : PySem.W.findIn K (.ref C2) "ack_fields" = some (some (.ref fM2_6)))
  (iM2_6 : PySem.W.isFn K (.ref fM2_6) = true)
  (lM2_6 : K.lookup fM2_6 = some ⟨ocM2_6, odM2_6, .func (PySem.W.fnOf "ack_fields" "Receiver.ack_fields" (defArgs s_Receiver_ack_fields) (defBody s_Receiver_ack_fields) (defScope s_Receiver_ack_fields) .none kVM2_6 dcM2_6 pmM2_6 anM2_6 cdM2_6 ctM2_6), slM2_6⟩)
  (cM2_6 : PySem.W.codeIn K cdM2_6 "Receiver.ack_fields" = true)
  (kM2_6 : PySem.W.keepIn K (.ref fM2_6) = true)
  (aC3 : PySem.W.nsIn K mainGlobals "Sender" = some (some (.ref C3)))
  (pgC3 : PySem.W.plainGet K C3 Str.empty = true)
  (hdC3 : PySem.W.hasDictIn K C3 = true)
  (poC3 : PySem.W.plainOver K C3 = true)
  (saC3 : PySem.W.findIn K (.ref C3) "__setattr__" = some (some (.builtin "object.__setattr__")))
  (mkC3 : PySem.W.makesIn K C3 = true)
  (kcC3 : PySem.W.keepIn K (.ref C3) = true)
  (nfC3_0 : PySem.W.findIn K (.ref C3) "window_size" = some none)
  (nfC3_1 : PySem.W.findIn K (.ref C3) "modulus" = some none)
  (nfC3_2 : PySem.W.findIn K (.ref C3) "frames" = some none)
  (nfC3_3 : PySem.W.findIn K (.ref C3) "all_items" = some none)
  (nfC3_4 : PySem.W.findIn K (.ref C3) "base" = some none)
  (nfC3_5 : PySem.W.findIn K (.ref C3) "next_number" = some none)
  (nfC3_6 : PySem.W.findIn K (.ref C3) "acknowledged" = some none)
  (nfC3_7 : PySem.W.findIn K (.ref C3) "dropped" = some none)
  (aM3_0 : PySem.W.findIn K (.ref C3) "__init__" = some (some (.ref fM3_0)))
  (iM3_0 : PySem.W.isFn K (.ref fM3_0) = true)
  (lM3_0 : K.lookup fM3_0 = some ⟨ocM3_0, odM3_0, .func (PySem.W.fnOf "__init__" "Sender.__init__" (defArgs s_Sender_init) (defBody s_Sender_init) (defScope s_Sender_init) .none kVM3_0 dcM3_0 pmM3_0 anM3_0 cdM3_0 ctM3_0), slM3_0⟩)
  (cM3_0 : PySem.W.codeIn K cdM3_0 "Sender.__init__" = true)
  (kM3_0 : PySem.W.keepIn K (.ref fM3_0) = true)
  (aM3_1 : PySem.W.findIn K (.ref C3) "add_item" = some (some (.ref fM3_1)))
  (iM3_1 : PySem.W.isFn K (.ref fM3_1) = true)
  (lM3_1 : K.lookup fM3_1 = some ⟨ocM3_1, odM3_1, .func (PySem.W.fnOf "add_item" "Sender.add_item" (defArgs s_Sender_add_item) (defBody s_Sender_add_item) (defScope s_Sender_add_item) .none kVM3_1 dcM3_1 pmM3_1 anM3_1 cdM3_1 ctM3_1), slM3_1⟩)
  (cM3_1 : PySem.W.codeIn K cdM3_1 "Sender.add_item" = true)
  (kM3_1 : PySem.W.keepIn K (.ref fM3_1) = true)
  (aM3_2 : PySem.W.findIn K (.ref C3) "has_content" = some (some (.ref fM3_2)))
  (iM3_2 : PySem.W.isFn K (.ref fM3_2) = true)
  (lM3_2 : K.lookup fM3_2 = some ⟨ocM3_2, odM3_2, .func (PySem.W.fnOf "has_content" "Sender.has_content" (defArgs s_Sender_has_content) (defBody s_Sender_has_content) (defScope s_Sender_has_content) .none kVM3_2 dcM3_2 pmM3_2 anM3_2 cdM3_2 ctM3_2), slM3_2⟩)
  (cM3_2 : PySem.W.codeIn K cdM3_2 "Sender.has_content" = true)
  (kM3_2 : PySem.W.keepIn K (.ref fM3_2) = true)
  (aM3_3 : PySem.W.findIn K (.ref C3) "in_window" = some (some (.ref fM3_3)))
  (iM3_3 : PySem.W.isFn K (.ref fM3_3) = true)
  (lM3_3 : K.lookup fM3_3 = some ⟨ocM3_3, odM3_3, .func (PySem.W.fnOf "in_window" "Sender.in_window" (defArgs s_Sender_in_window) (defBody s_Sender_in_window) (defScope s_Sender_in_window) .none kVM3_3 dcM3_3 pmM3_3 anM3_3 cdM3_3 ctM3_3), slM3_3⟩)
  (cM3_3 : PySem.W.codeIn K cdM3_3 "Sender.in_window" = true)
  (kM3_3 : PySem.W.keepIn K (.ref fM3_3) = true)
  (aM3_4 : PySem.W.findIn K (.ref C3) "window_count" = some (some (.ref fM3_4)))
  (iM3_4 : PySem.W.isFn K (.ref fM3_4) = true)
  (lM3_4 : K.lookup fM3_4 = some ⟨ocM3_4, odM3_4, .func (PySem.W.fnOf "window_count" "Sender.window_count" (defArgs s_Sender_window_count) (defBody s_Sender_window_count) (defScope s_Sender_window_count) .none kVM3_4 dcM3_4 pmM3_4 anM3_4 cdM3_4 ctM3_4), slM3_4⟩)
  (cM3_4 : PySem.W.codeIn K cdM3_4 "Sender.window_count" = true)
  (kM3_4 : PySem.W.keepIn K (.ref fM3_4) = true)
  (aM3_5 : PySem.W.findIn K (.ref C3) "queue_count" = some (some (.ref fM3_5)))
  (iM3_5 : PySem.W.isFn K (.ref fM3_5) = true)
  (lM3_5 : K.lookup fM3_5 = some ⟨ocM3_5, odM3_5, .func (PySem.W.fnOf "queue_count" "Sender.queue_count" (defArgs s_Sender_queue_count) (defBody s_Sender_queue_count) (defScope s_Sender_queue_count) .none kVM3_5 dcM3_5 pmM3_5 anM3_5 cdM3_5 ctM3_5), slM3_5⟩)
  (cM3_5 : PySem.W.codeIn K cdM3_5 "Sender.queue_count" = true)
  (kM3_5 : PySem.W.keepIn K (.ref fM3_5) = true)
  (aM3_6 : PySem.W.findIn K (.ref C3) "awaits_acknowledgement" = some (some (.ref fM3_6)))
  (iM3_6 : PySem.W.isFn K (.ref fM3_6) = true)
  (lM3_6 : K.lookup fM3_6 = some ⟨ocM3_6, odM3_6, .func (PySem.W.fnOf "awaits_acknowledgement" "Sender.awaits_acknowledgement" (defArgs s_Sender_awaits_acknowledgement) (defBody s_Sender_awaits_acknowledgement) (defScope s_Sender_awaits_acknowledgement) .none kVM3_6 dcM3_6 pmM3_6 anM3_6 cdM3_6 ctM3_6), slM3_6⟩)
  (cM3_6 : PySem.W.codeIn K cdM3_6 "Sender.awaits_acknowledgement" = true)
  (kM3_6 : PySem.W.keepIn K (.ref fM3_6) = true)
  (aM3_7 : PySem.W.findIn K (.ref C3) "unacknowledged" = some (some (.ref fM3_7)))
  (iM3_7 : PySem.W.isFn K (.ref fM3_7) = true)
  (lM3_7 : K.lookup fM3_7 = some ⟨ocM3_7, odM3_7, .func (PySem.W.fnOf "unacknowledged" "Sender.unacknowledged" (defArgs s_Sender_unacknowledged) (defBody s_Sender_unacknowledged) (defScope s_Sender_unacknowledged) .none kVM3_7 dcM3_7 pmM3_7 anM3_7 cdM3_7 ctM3_7), slM3_7⟩)
  (cM3_7 : PySem.W.codeIn K cdM3_7 "Sender.unacknowledged" = true)
  (kM3_7 : PySem.W.keepIn K (.ref fM3_7) = true)
  (aM3_8 : PySem.W.findIn K (.ref C3) "times_of" = some (some (.ref fM3_8)))
  (iM3_8 : PySem.W.isFn K (.ref fM3_8) = true)
  (lM3_8 : K.lookup fM3_8 = some ⟨ocM3_8, odM3_8, .func (PySem.W.fnOf "times_of" "Sender.times_of" (defArgs s_Sender_times_of) (defBody s_Sender_times_of) (defScope s_Sender_times_of) .none kVM3_8 dcM3_8 pmM3_8 anM3_8 cdM3_8 ctM3_8), slM3_8⟩)
  (cM3_8 : PySem.W.codeIn K cdM3_8 "Sender.times_of" = true)
  (kM3_8 : PySem.W.keepIn K (.ref fM3_8) = true)
  (aM3_9 : PySem.W.findIn K (.ref C3) "drop_contents" = some (some (.ref fM3_9)))
  (iM3_9 : PySem.W.isFn K (.ref fM3_9) = true)
  (lM3_9 : K.lookup fM3_9 = some ⟨ocM3_9, odM3_9, .func (PySem.W.fnOf "drop_contents" "Sender.drop_contents" (defArgs s_Sender_drop_contents) (defBody s_Sender_drop_contents) (defScope s_Sender_drop_contents) .none kVM3_9 dcM3_9 pmM3_9 anM3_9 cdM3_9 ctM3_9), slM3_9⟩)
  (cM3_9 : PySem.W.codeIn K cdM3_9 "Sender.drop_contents" = true)
  (kM3_9 : PySem.W.keepIn K (.ref fM3_9) = true)
  (aM3_10 : PySem.W.findIn K (.ref C3) "send_frame" = some (some (.ref fM3_10)))
  (iM3_10 : PySem.W.isFn K (.ref fM3_10) = true)
  (lM3_10 : K.lookup fM3_10 = some ⟨ocM3_10, odM3_10, .func (PySem.W.fnOf "send_frame" "Sender.send_frame" (defArgs s_Sender_send_frame) (defBody s_Sender_send_frame) (defScope s_Sender_send_frame) .none kVM3_10 dcM3_10 pmM3_10 anM3_10 cdM3_10 ctM3_10), slM3_10⟩)
  (cM3_10 : PySem.W.codeIn K cdM3_10 "Sender.send_frame" = true)
  (kM3_10 : PySem.W.keepIn K (.ref fM3_10) = true)
  (aM3_11 : PySem.W.findIn K (.ref C3) "receive_ack" = some (some (.ref fM3_11)))
  (iM3_11 : PySem.W.isFn K (.ref fM3_11) = true)
  (lM3_11 : K.lookup fM3_11 = some ⟨ocM3_11, odM3_11, .func (PySem.W.fnOf "receive_ack" "Sender.receive_ack" (defArgs s_Sender_receive_ack) (defBody s_Sender_receive_ack) (defScope s_Sender_receive_ack) .none kVM3_11 dcM3_11 pmM3_11 anM3_11 cdM3_11 ctM3_11), slM3_11⟩)
  (cM3_11 : PySem.W.codeIn K cdM3_11 "Sender.receive_ack" = true)
  (kM3_11 : PySem.W.keepIn K (.ref fM3_11) = true)
  (aM3_12 : PySem.W.findIn K (.ref C3) "move_window" = some (some (.ref fM3_12)))
  (iM3_12 : PySem.W.isFn K (.ref fM3_12) = true)
  (lM3_12 : K.lookup fM3_12 = some ⟨ocM3_12, odM3_12, .func (PySem.W.fnOf "move_window" "Sender.move_window" (defArgs s_Sender_move_window) (defBody s_Sender_move_window) (defScope s_Sender_move_window) .none kVM3_12 dcM3_12 pmM3_12 anM3_12 cdM3_12 ctM3_12), slM3_12⟩)
  (cM3_12 : PySem.W.codeIn K cdM3_12 "Sender.move_window" = true)
  (kM3_12 : PySem.W.keepIn K (.ref fM3_12) = true)
  (aM3_13 : PySem.W.findIn K (.ref C3) "advance_base" = some (some (.ref fM3_13)))
  (iM3_13 : PySem.W.isFn K (.ref fM3_13) = true)
  (lM3_13 : K.lookup fM3_13 = some ⟨ocM3_13, odM3_13, .func (PySem.W.fnOf "advance_base" "Sender.advance_base" (defArgs s_Sender_advance_base) (defBody s_Sender_advance_base) (defScope s_Sender_advance_base) .none kVM3_13 dcM3_13 pmM3_13 anM3_13 cdM3_13 ctM3_13), slM3_13⟩)
  (cM3_13 : PySem.W.codeIn K cdM3_13 "Sender.advance_base" = true)
  (kM3_13 : PySem.W.keepIn K (.ref fM3_13) = true)
  (aM3_14 : PySem.W.findIn K (.ref C3) "fill_window" = some (some (.ref fM3_14)))
  (iM3_14 : PySem.W.isFn K (.ref fM3_14) = true)
  (lM3_14 : K.lookup fM3_14 = some ⟨ocM3_14, odM3_14, .func (PySem.W.fnOf "fill_window" "Sender.fill_window" (defArgs s_Sender_fill_window) (defBody s_Sender_fill_window) (defScope s_Sender_fill_window) .none kVM3_14 dcM3_14 pmM3_14 anM3_14 cdM3_14 ctM3_14), slM3_14⟩)
  (cM3_14 : PySem.W.codeIn K cdM3_14 "Sender.fill_window" = true)
  (kM3_14 : PySem.W.keepIn K (.ref fM3_14) = true)
  (aC4 : PySem.W.nsIn K mainGlobals "Link" = some (some (.ref C4)))
  (pgC4 : PySem.W.plainGet K C4 Str.empty = true)
  (hdC4 : PySem.W.hasDictIn K C4 = true)
  (poC4 : PySem.W.plainOver K C4 = true)
  (saC4 : PySem.W.findIn K (.ref C4) "__setattr__" = some (some (.builtin "object.__setattr__")))
  (mkC4 : PySem.W.makesIn K C4 = true)
  (kcC4 : PySem.W.keepIn K (.ref C4) = true)
  (nfC4_0 : PySem.W.findIn K (.ref C4) "safe" = some none)
  (nfC4_1 : PySem.W.findIn K (.ref C4) "frames" = some none)
  (nfC4_2 : PySem.W.findIn K (.ref C4) "acks" = some none)
  (nfC4_3 : PySem.W.findIn K (.ref C4) "sender" = some none)
  (nfC4_4 : PySem.W.findIn K (.ref C4) "receiver" = some none)
  (aM4_0 : PySem.W.findIn K (.ref C4) "__init__" = some (some (.ref fM4_0)))
  (iM4_0 : PySem.W.isFn K (.ref fM4_0) = true)
  (lM4_0 : K.lookup fM4_0 = some ⟨ocM4_0, odM4_0, .func (PySem.W.fnOf "__init__" "Link.__init__" (defArgs s_Link_init) (defBody s_Link_init) (defScope s_Link_init) .none kVM4_0 dcM4_0 pmM4_0 anM4_0 cdM4_0 ctM4_0), slM4_0⟩)
  (cM4_0 : PySem.W.codeIn K cdM4_0 "Link.__init__" = true)
  (kM4_0 : PySem.W.keepIn K (.ref fM4_0) = true)
  (aM4_1 : PySem.W.findIn K (.ref C4) "in_transit" = some (some (.ref fM4_1)))
  (iM4_1 : PySem.W.isFn K (.ref fM4_1) = true)
  (lM4_1 : K.lookup fM4_1 = some ⟨ocM4_1, odM4_1, .func (PySem.W.fnOf "in_transit" "Link.in_transit" (defArgs s_Link_in_transit) (defBody s_Link_in_transit) (defScope s_Link_in_transit) .none kVM4_1 dcM4_1 pmM4_1 anM4_1 cdM4_1 ctM4_1), slM4_1⟩)
  (cM4_1 : PySem.W.codeIn K cdM4_1 "Link.in_transit" = true)
  (kM4_1 : PySem.W.keepIn K (.ref fM4_1) = true)
  (aM4_2 : PySem.W.findIn K (.ref C4) "known_in_transit" = some (some (.ref fM4_2)))
  (iM4_2 : PySem.W.isFn K (.ref fM4_2) = true)
  (lM4_2 : K.lookup fM4_2 = some ⟨ocM4_2, odM4_2, .func (PySem.W.fnOf "known_in_transit" "Link.known_in_transit" (defArgs s_Link_known_in_transit) (defBody s_Link_known_in_transit) (defScope s_Link_known_in_transit) .none kVM4_2 dcM4_2 pmM4_2 anM4_2 cdM4_2 ctM4_2), slM4_2⟩)
  (cM4_2 : PySem.W.codeIn K cdM4_2 "Link.known_in_transit" = true)
  (kM4_2 : PySem.W.keepIn K (.ref fM4_2) = true)
  (aM4_3 : PySem.W.findIn K (.ref C4) "repeat_windows" = some (some (.ref fM4_3)))
  (iM4_3 : PySem.W.isFn K (.ref fM4_3) = true)
  (lM4_3 : K.lookup fM4_3 = some ⟨ocM4_3, odM4_3, .func (PySem.W.fnOf "repeat_windows" "Link.repeat_windows" (defArgs s_Link_repeat_windows) (defBody s_Link_repeat_windows) (defScope s_Link_repeat_windows) .none kVM4_3 dcM4_3 pmM4_3 anM4_3 cdM4_3 ctM4_3), slM4_3⟩)
  (cM4_3 : PySem.W.codeIn K cdM4_3 "Link.repeat_windows" = true)
  (kM4_3 : PySem.W.keepIn K (.ref fM4_3) = true)
  (aM4_4 : PySem.W.findIn K (.ref C4) "repeat_window" = some (some (.ref fM4_4)))
  (iM4_4 : PySem.W.isFn K (.ref fM4_4) = true)
  (lM4_4 : K.lookup fM4_4 = some ⟨ocM4_4, odM4_4, .func (PySem.W.fnOf "repeat_window" "Link.repeat_window" (defArgs s_Link_repeat_window) (defBody s_Link_repeat_window) (defScope s_Link_repeat_window) .none kVM4_4 dcM4_4 pmM4_4 anM4_4 cdM4_4 ctM4_4), slM4_4⟩)
  (cM4_4 : PySem.W.codeIn K cdM4_4 "Link.repeat_window" = true)
  (kM4_4 : PySem.W.keepIn K (.ref fM4_4) = true)
  (aK0 : PySem.W.nsIn K mainGlobals "SEND_ITEM" = some (some (.int (1) tK0)))
  (aK1 : PySem.W.nsIn K mainGlobals "RETRANSMIT" = some (some (.int (2) tK1)))
  (aK2 : PySem.W.nsIn K mainGlobals "DELIVER_FRAME" = some (some (.int (3) tK2)))
  (aK3 : PySem.W.nsIn K mainGlobals "SEND_ACK" = some (some (.int (6) tK3)))
  (aK4 : PySem.W.nsIn K mainGlobals "DELIVER_ACK" = some (some (.int (7) tK4)))
  (aK5 : PySem.W.nsIn K mainGlobals "NO_CONDITION" = some (some (.int (0) tK5)))
  (aK6 : PySem.W.nsIn K mainGlobals "FRAME_CONDITION" = some (some (.int (1) tK6)))
  (aK7 : PySem.W.nsIn K mainGlobals "ACK_CONDITION" = some (some (.int (2) tK7)))
  (aK8 : PySem.W.nsIn K mainGlobals "EVENT_RANGES" = some (some (.ref eK8)))
  (lK8 : K.lookup eK8 = some ⟨.type "tuple", oK8, .seq vK8 nK8, sK8⟩)
  (zK8 : vK8.size ≤ sizeLine)
  (vK8 : Vals ([eK8_0, eK8_1, eK8_2, eK8_3, eK8_4, eK8_5, eK8_6].map V.ref) vK8.toList)
  (lK8_0 : K.lookup eK8_0 = some ⟨.type "tuple", oK8_0, .seq vK8_0 nK8_0, sK8_0⟩)
  (zK8_0 : vK8_0.size ≤ sizeLine)
  (vK8_0 : Vals ([1, 99999].map V.int) vK8_0.toList)
  (lK8_1 : K.lookup eK8_1 = some ⟨.type "tuple", oK8_1, .seq vK8_1 nK8_1, sK8_1⟩)
  (zK8_1 : vK8_1.size ≤ sizeLine)
  (vK8_1 : Vals ([0, 999].map V.int) vK8_1.toList)
  (lK8_2 : K.lookup eK8_2 = some ⟨.type "tuple", oK8_2, .seq vK8_2 nK8_2, sK8_2⟩)
  (zK8_2 : vK8_2.size ≤ sizeLine)
  (vK8_2 : Vals ([0, 6].map V.int) vK8_2.toList)
  (lK8_3 : K.lookup eK8_3 = some ⟨.type "tuple", oK8_3, .seq vK8_3 nK8_3, sK8_3⟩)
  (zK8_3 : vK8_3.size ≤ sizeLine)
  (vK8_3 : Vals ([0, 9999].map V.int) vK8_3.toList)
  (lK8_4 : K.lookup eK8_4 = some ⟨.type "tuple", oK8_4, .seq vK8_4 nK8_4, sK8_4⟩)
  (zK8_4 : vK8_4.size ≤ sizeLine)
  (vK8_4 : Vals ([0, 5].map V.int) vK8_4.toList)
  (lK8_5 : K.lookup eK8_5 = some ⟨.type "tuple", oK8_5, .seq vK8_5 nK8_5, sK8_5⟩)
  (zK8_5 : vK8_5.size ≤ sizeLine)
  (vK8_5 : Vals ([0, 5].map V.int) vK8_5.toList)
  (lK8_6 : K.lookup eK8_6 = some ⟨.type "tuple", oK8_6, .seq vK8_6 nK8_6, sK8_6⟩)
  (zK8_6 : vK8_6.size ≤ sizeLine)
  (vK8_6 : Vals ([-9999, 9999].map V.int) vK8_6.toList)
  (aK9 : PySem.W.nsIn K mainGlobals "ANTI_MESSAGE_RANGES" = some (some (.ref eK9)))
  (lK9 : K.lookup eK9 = some ⟨.type "tuple", oK9, .seq vK9 nK9, sK9⟩)
  (zK9 : vK9.size ≤ sizeLine)
  (vK9 : Vals ([eK9_0, eK9_1, eK9_2].map V.ref) vK9.toList)
  (lK9_0 : K.lookup eK9_0 = some ⟨.type "tuple", oK9_0, .seq vK9_0 nK9_0, sK9_0⟩)
  (zK9_0 : vK9_0.size ≤ sizeLine)
  (vK9_0 : Vals ([1, 99999].map V.int) vK9_0.toList)
  (lK9_1 : K.lookup eK9_1 = some ⟨.type "tuple", oK9_1, .seq vK9_1 nK9_1, sK9_1⟩)
  (zK9_1 : vK9_1.size ≤ sizeLine)
  (vK9_1 : Vals ([0, 5].map V.int) vK9_1.toList)
  (lK9_2 : K.lookup eK9_2 = some ⟨.type "tuple", oK9_2, .seq vK9_2 nK9_2, sK9_2⟩)
  (zK9_2 : vK9_2.size ≤ sizeLine)
  (vK9_2 : Vals ([0, 999].map V.int) vK9_2.toList)
  (aK10 : PySem.W.nsIn K mainGlobals "EVENT_TIME_PLACE" = some (some (.int (1) tK10)))
  (aK11 : PySem.W.nsIn K mainGlobals "ANTI_MESSAGE_TIME_PLACE" = some (some (.int (2) tK11)))
  (aK12 : PySem.W.nsIn K mainGlobals "CHECKSUM_MODULUS" = some (some (.int (1000003) tK12)))
  (aK13 : PySem.W.nsIn K mainGlobals "CORRUPTED" = some (some (.int (0) tK13)))
  (aK14 : PySem.W.nsIn K mainGlobals "IGNORED" = some (some (.int (1) tK14)))
  (aK15 : PySem.W.nsIn K mainGlobals "ACCEPTED" = some (some (.int (2) tK15)))
  (aK16 : PySem.W.nsIn K mainGlobals "LINK_LIMIT" = some (some (.int (4) tK16)))
  (aK17 : PySem.W.nsIn K mainGlobals "ITEM_LIMIT" = some (some (.int (120) tK17)))
  (aK18 : PySem.W.nsIn K mainGlobals "ROUND_LIMIT" = some (some (.int (121) tK18)))
  (aK19 : PySem.W.nsIn K mainGlobals "HIGHEST_TIME_LIMIT" = some (some (.int (1000) tK19)))
  (aK20 : PySem.W.nsIn K mainGlobals "LOWEST_CHANGE" = some (some (.int (-9999) tK20)))
  (aK21 : PySem.W.nsIn K mainGlobals "HIGHEST_CHANGE" = some (some (.int (99999) tK21)))
  (aK22 : PySem.W.nsIn K mainGlobals "OUT_OF_RANGE" = some (some (.int (-1) tK22)))
  (aK23 : PySem.W.nsIn K mainGlobals "NO_LINK" = some (some (.int (-2) tK23)))
  (aK24 : PySem.W.nsIn K mainGlobals "NO_ITEM" = some (some (.int (-3) tK24)))
  (aK25 : PySem.W.nsIn K mainGlobals "NO_PACKET" = some (some (.int (-5) tK25)))
  (aK26 : PySem.W.nsIn K mainGlobals "NOT_AWAITED" = some (some (.int (-6) tK26)))
  (aK27 : PySem.W.nsIn K mainGlobals "IN_TRANSIT" = some (some (.int (-7) tK27)))
  (aK28 : PySem.W.nsIn K mainGlobals "FULL" = some (some (.int (-8) tK28)))
  (aK29 : PySem.W.nsIn K mainGlobals "NOT_SAFE" = some (some (.int (-9) tK29)))
  (aK30 : PySem.W.nsIn K mainGlobals "ARGUMENT_COUNTS" = some (some (.ref eK30)))
  (lK30 : K.lookup eK30 = some ⟨.type "tuple", oK30, .seq vK30 nK30, sK30⟩)
  (zK30 : vK30.size ≤ sizeLine)
  (vK30 : Vals ([5, 1, 2, 3, 2, 4, 1, 3, 2, 4, 1, 1, 1, 1, 2, 1, 0, 1, 5, 5, 1, 0].map V.int) vK30.toList)
  (aK31 : PySem.W.nsIn K mainGlobals "LINK_CALLS" = some (some (.ref eK31)))
  (lK31 : K.lookup eK31 = some ⟨.type "dict", none, .dict dK31 nK31, #[]⟩)
  (sK31 : (eK31 == sysModules) = false)
  (vK31 : EntRaw dK31.toList [(1, fG15), (2, fG16), (3, fG17), (4, fG18), (5, fG19), (6, fG20), (7, fG21), (8, fG22), (9, fG23), (10, fG24), (11, fG25), (12, fG26), (13, fG27), (14, fG28), (15, fG29), (20, fG34)])
  (aK32 : PySem.W.nsIn K mainGlobals "SESSION_CALLS" = some (some (.ref eK32)))
  (lK32 : K.lookup eK32 = some ⟨.type "dict", none, .dict dK32 nK32, #[]⟩)
  (sK32 : (eK32 == sysModules) = false)
  (vK32 : EntRaw dK32.toList [(0, fG14), (16, fG30), (17, fG31), (18, fG32), (19, fG33), (21, fG35)])
  (b_enumerate : PySem.W.nsIn K mainGlobals "enumerate" = some none)
  (b_len : PySem.W.nsIn K mainGlobals "len" = some none)
  (b_list : PySem.W.nsIn K mainGlobals "list" = some none)
  (b_min : PySem.W.nsIn K mainGlobals "min" = some none)
  (b_range : PySem.W.nsIn K mainGlobals "range" = some none)
  (b_zip : PySem.W.nsIn K mainGlobals "zip" = some none)
  : Txt K mg ⟨C0, C1, C2, C3, C4⟩ where
  g_are_in_range := ⟨fG0, _, fun_mk (st := s_are_in_range) lG0 cG0 kG0, PySem.W.mg_of X G aG0, (fun_mk (st := s_are_in_range) lG0 cG0 kG0).binds (ps := ["parameters"]) fun _ _ _ _ _ _ us hl => match us, hl with | [_], _ => rfl⟩
  g_violated_condition := ⟨fG1, _, fun_mk (st := s_violated_condition) lG1 cG1 kG1, PySem.W.mg_of X G aG1, (fun_mk (st := s_violated_condition) lG1 cG1 kG1).binds (ps := ["parameters"]) fun _ _ _ _ _ _ us hl => match us, hl with | [_], _ => rfl⟩
  g_are_safe := ⟨fG2, _, fun_mk (st := s_are_safe) lG2 cG2 kG2, PySem.W.mg_of X G aG2, (fun_mk (st := s_are_safe) lG2 cG2 kG2).binds (ps := ["parameters"]) fun _ _ _ _ _ _ us hl => match us, hl with | [_], _ => rfl⟩
  g_failure_steps := ⟨fG3, _, fun_mk (st := s_failure_steps) lG3 cG3 kG3, PySem.W.mg_of X G aG3, (fun_mk (st := s_failure_steps) lG3 cG3 kG3).binds (ps := ["parameters"]) fun _ _ _ _ _ _ us hl => match us, hl with | [_], _ => rfl⟩
  g_late_frame_steps := ⟨fG4, _, fun_mk (st := s_late_frame_steps) lG4 cG4 kG4, PySem.W.mg_of X G aG4, (fun_mk (st := s_late_frame_steps) lG4 cG4 kG4).binds (ps := ["w", "m"]) fun _ _ _ _ _ _ us hl => match us, hl with | [_, _], _ => rfl⟩
  g_late_ack_steps := ⟨fG5, _, fun_mk (st := s_late_ack_steps) lG5 cG5 kG5, PySem.W.mg_of X G aG5, (fun_mk (st := s_late_ack_steps) lG5 cG5 kG5).binds (ps := ["w", "m"]) fun _ _ _ _ _ _ us hl => match us, hl with | [_, _], _ => rfl⟩
  g_transfer_steps := ⟨fG6, _, fun_mk (st := s_transfer_steps) lG6 cG6 kG6, PySem.W.mg_of X G aG6, (fun_mk (st := s_transfer_steps) lG6 cG6 kG6).binds (ps := ["number", "place"]) fun _ _ _ _ _ _ us hl => match us, hl with | [_, _], _ => rfl⟩
  g_acknowledge_steps := ⟨fG7, _, fun_mk (st := s_acknowledge_steps) lG7 cG7 kG7, PySem.W.mg_of X G aG7, (fun_mk (st := s_acknowledge_steps) lG7 cG7 kG7).binds (ps := ["place"]) fun _ _ _ _ _ _ us hl => match us, hl with | [_], _ => rfl⟩
  g_send_step := ⟨fG8, _, fun_mk (st := s_send_step) lG8 cG8 kG8, PySem.W.mg_of X G aG8, (fun_mk (st := s_send_step) lG8 cG8 kG8).binds (ps := ["number"]) fun _ _ _ _ _ _ us hl => match us, hl with | [_], _ => rfl⟩
  g_is_item := ⟨fG9, _, fun_mk (st := s_is_item) lG9 cG9 kG9, PySem.W.mg_of X G aG9, (fun_mk (st := s_is_item) lG9 cG9 kG9).binds (ps := ["numbers"]) fun _ _ _ _ _ _ us hl => match us, hl with | [_], _ => rfl⟩
  g_time_of := ⟨fG10, _, fun_mk (st := s_time_of) lG10 cG10 kG10, PySem.W.mg_of X G aG10, (fun_mk (st := s_time_of) lG10 cG10 kG10).binds (ps := ["item"]) fun _ _ _ _ _ _ us hl => match us, hl with | [_], _ => rfl⟩
  g_all_within := ⟨fG11, _, fun_mk (st := s_all_within) lG11 cG11 kG11, PySem.W.mg_of X G aG11, (fun_mk (st := s_all_within) lG11 cG11 kG11).binds (ps := ["numbers", "ranges"]) fun _ _ _ _ _ _ us hl => match us, hl with | [_, _], _ => rfl⟩
  g_checksum_of := ⟨fG12, _, fun_mk (st := s_checksum_of) lG12 cG12 kG12, PySem.W.mg_of X G aG12, (fun_mk (st := s_checksum_of) lG12 cG12 kG12).binds (ps := ["fields"]) fun _ _ _ _ _ _ us hl => match us, hl with | [_], _ => rfl⟩
  g_number_meant := ⟨fG13, _, fun_mk (st := s_number_meant) lG13 cG13 kG13, PySem.W.mg_of X G aG13, (fun_mk (st := s_number_meant) lG13 cG13 kG13).binds (ps := ["field", "modulus", "lowest", "highest"]) fun _ _ _ _ _ _ us hl => match us, hl with | [_, _, _, _], _ => rfl⟩
  g_new_link := ⟨fG14, _, fun_mk (st := s_new_link) lG14 cG14 kG14, PySem.W.mg_of X G aG14, (fun_mk (st := s_new_link) lG14 cG14 kG14).binds (ps := ["links", "arguments"]) fun _ _ _ _ _ _ us hl => match us, hl with | [_, _], _ => rfl⟩
  g_send_item := ⟨fG15, _, fun_mk (st := s_send_item) lG15 cG15 kG15, PySem.W.mg_of X G aG15, (fun_mk (st := s_send_item) lG15 cG15 kG15).binds (ps := ["link", "arguments"]) fun _ _ _ _ _ _ us hl => match us, hl with | [_, _], _ => rfl⟩
  g_retransmit := ⟨fG16, _, fun_mk (st := s_retransmit) lG16 cG16 kG16, PySem.W.mg_of X G aG16, (fun_mk (st := s_retransmit) lG16 cG16 kG16).binds (ps := ["link", "arguments"]) fun _ _ _ _ _ _ us hl => match us, hl with | [_, _], _ => rfl⟩
  g_deliver_frame := ⟨fG17, _, fun_mk (st := s_deliver_frame) lG17 cG17 kG17, PySem.W.mg_of X G aG17, (fun_mk (st := s_deliver_frame) lG17 cG17 kG17).binds (ps := ["link", "arguments"]) fun _ _ _ _ _ _ us hl => match us, hl with | [_, _], _ => rfl⟩
  g_lose_frame := ⟨fG18, _, fun_mk (st := s_lose_frame) lG18 cG18 kG18, PySem.W.mg_of X G aG18, (fun_mk (st := s_lose_frame) lG18 cG18 kG18).binds (ps := ["link", "arguments"]) fun _ _ _ _ _ _ us hl => match us, hl with | [_, _], _ => rfl⟩
  g_corrupt_frame := ⟨fG19, _, fun_mk (st := s_corrupt_frame) lG19 cG19 kG19, PySem.W.mg_of X G aG19, (fun_mk (st := s_corrupt_frame) lG19 cG19 kG19).binds (ps := ["link", "arguments"]) fun _ _ _ _ _ _ us hl => match us, hl with | [_, _], _ => rfl⟩
  g_send_ack := ⟨fG20, _, fun_mk (st := s_send_ack) lG20 cG20 kG20, PySem.W.mg_of X G aG20, (fun_mk (st := s_send_ack) lG20 cG20 kG20).binds (ps := ["link", "arguments"]) fun _ _ _ _ _ _ us hl => match us, hl with | [_, _], _ => rfl⟩
  g_deliver_ack := ⟨fG21, _, fun_mk (st := s_deliver_ack) lG21 cG21 kG21, PySem.W.mg_of X G aG21, (fun_mk (st := s_deliver_ack) lG21 cG21 kG21).binds (ps := ["link", "arguments"]) fun _ _ _ _ _ _ us hl => match us, hl with | [_, _], _ => rfl⟩
  g_lose_ack := ⟨fG22, _, fun_mk (st := s_lose_ack) lG22 cG22 kG22, PySem.W.mg_of X G aG22, (fun_mk (st := s_lose_ack) lG22 cG22 kG22).binds (ps := ["link", "arguments"]) fun _ _ _ _ _ _ us hl => match us, hl with | [_, _], _ => rfl⟩
  g_corrupt_ack := ⟨fG23, _, fun_mk (st := s_corrupt_ack) lG23 cG23 kG23, PySem.W.mg_of X G aG23, (fun_mk (st := s_corrupt_ack) lG23 cG23 kG23).binds (ps := ["link", "arguments"]) fun _ _ _ _ _ _ us hl => match us, hl with | [_, _], _ => rfl⟩
  g_list_frames := ⟨fG24, _, fun_mk (st := s_list_frames) lG24 cG24 kG24, PySem.W.mg_of X G aG24, (fun_mk (st := s_list_frames) lG24 cG24 kG24).binds (ps := ["link", "arguments"]) fun _ _ _ _ _ _ us hl => match us, hl with | [_, _], _ => rfl⟩
  g_list_acks := ⟨fG25, _, fun_mk (st := s_list_acks) lG25 cG25 kG25, PySem.W.mg_of X G aG25, (fun_mk (st := s_list_acks) lG25 cG25 kG25).binds (ps := ["link", "arguments"]) fun _ _ _ _ _ _ us hl => match us, hl with | [_, _], _ => rfl⟩
  g_sender_state := ⟨fG26, _, fun_mk (st := s_sender_state) lG26 cG26 kG26, PySem.W.mg_of X G aG26, (fun_mk (st := s_sender_state) lG26 cG26 kG26).binds (ps := ["link", "arguments"]) fun _ _ _ _ _ _ us hl => match us, hl with | [_, _], _ => rfl⟩
  g_receiver_state := ⟨fG27, _, fun_mk (st := s_receiver_state) lG27 cG27 kG27, PySem.W.mg_of X G aG27, (fun_mk (st := s_receiver_state) lG27 cG27 kG27).binds (ps := ["link", "arguments"]) fun _ _ _ _ _ _ us hl => match us, hl with | [_, _], _ => rfl⟩
  g_list_delivered := ⟨fG28, _, fun_mk (st := s_list_delivered) lG28 cG28 kG28, PySem.W.mg_of X G aG28, (fun_mk (st := s_list_delivered) lG28 cG28 kG28).binds (ps := ["link", "arguments"]) fun _ _ _ _ _ _ us hl => match us, hl with | [_, _], _ => rfl⟩
  g_list_in_transit := ⟨fG29, _, fun_mk (st := s_list_in_transit) lG29 cG29 kG29, PySem.W.mg_of X G aG29, (fun_mk (st := s_list_in_transit) lG29 cG29 kG29).binds (ps := ["link", "arguments"]) fun _ _ _ _ _ _ us hl => match us, hl with | [_, _], _ => rfl⟩
  g_minimum_times := ⟨fG30, _, fun_mk (st := s_minimum_times) lG30 cG30 kG30, PySem.W.mg_of X G aG30, (fun_mk (st := s_minimum_times) lG30 cG30 kG30).binds (ps := ["links", "arguments"]) fun _ _ _ _ _ _ us hl => match us, hl with | [_, _], _ => rfl⟩
  g_drop_below := ⟨fG31, _, fun_mk (st := s_drop_below) lG31 cG31 kG31, PySem.W.mg_of X G aG31, (fun_mk (st := s_drop_below) lG31 cG31 kG31).binds (ps := ["links", "arguments"]) fun _ _ _ _ _ _ us hl => match us, hl with | [_, _], _ => rfl⟩
  g_check_parameters := ⟨fG32, _, fun_mk (st := s_check_parameters) lG32 cG32 kG32, PySem.W.mg_of X G aG32, (fun_mk (st := s_check_parameters) lG32 cG32 kG32).binds (ps := ["links", "arguments"]) fun _ _ _ _ _ _ us hl => match us, hl with | [_, _], _ => rfl⟩
  g_find_failure := ⟨fG33, _, fun_mk (st := s_find_failure) lG33 cG33 kG33, PySem.W.mg_of X G aG33, (fun_mk (st := s_find_failure) lG33 cG33 kG33).binds (ps := ["links", "arguments"]) fun _ _ _ _ _ _ us hl => match us, hl with | [_, _], _ => rfl⟩
  g_recover := ⟨fG34, _, fun_mk (st := s_recover) lG34 cG34 kG34, PySem.W.mg_of X G aG34, (fun_mk (st := s_recover) lG34 cG34 kG34).binds (ps := ["link", "arguments"]) fun _ _ _ _ _ _ us hl => match us, hl with | [_, _], _ => rfl⟩
  g_get_counts := ⟨fG35, _, fun_mk (st := s_get_counts) lG35 cG35 kG35, PySem.W.mg_of X G aG35, (fun_mk (st := s_get_counts) lG35 cG35 kG35).binds (ps := ["links", "arguments"]) fun _ _ _ _ _ _ us hl => match us, hl with | [_, _], _ => rfl⟩
  g_told_list := ⟨fG36, _, fun_mk (st := s_told_list) lG36 cG36 kG36, PySem.W.mg_of X G aG36, (fun_mk (st := s_told_list) lG36 cG36 kG36).binds (ps := ["numbers"]) fun _ _ _ _ _ _ us hl => match us, hl with | [_], _ => rfl⟩
  g_told_minimum := ⟨fG37, _, fun_mk (st := s_told_minimum) lG37 cG37 kG37, PySem.W.mg_of X G aG37, (fun_mk (st := s_told_minimum) lG37 cG37 kG37).binds (ps := ["times"]) fun _ _ _ _ _ _ us hl => match us, hl with | [_], _ => rfl⟩
  g_times_in_transit := ⟨fG38, _, fun_mk (st := s_times_in_transit) lG38 cG38 kG38, PySem.W.mg_of X G aG38, (fun_mk (st := s_times_in_transit) lG38 cG38 kG38).binds (ps := ["links"]) fun _ _ _ _ _ _ us hl => match us, hl with | [_], _ => rfl⟩
  g_refused_delivery := ⟨fG39, _, fun_mk (st := s_refused_delivery) lG39 cG39 kG39, PySem.W.mg_of X G aG39, (fun_mk (st := s_refused_delivery) lG39 cG39 kG39).binds (ps := ["channel", "arguments"]) fun _ _ _ _ _ _ us hl => match us, hl with | [_, _], _ => rfl⟩
  g_taken_packet := ⟨fG40, _, fun_mk (st := s_taken_packet) lG40 cG40 kG40, PySem.W.mg_of X G aG40, (fun_mk (st := s_taken_packet) lG40 cG40 kG40).binds (ps := ["channel", "arguments"]) fun _ _ _ _ _ _ us hl => match us, hl with | [_, _], _ => rfl⟩
  g_lose_packet := ⟨fG41, _, fun_mk (st := s_lose_packet) lG41 cG41 kG41, PySem.W.mg_of X G aG41, (fun_mk (st := s_lose_packet) lG41 cG41 kG41).binds (ps := ["channel", "arguments"]) fun _ _ _ _ _ _ us hl => match us, hl with | [_, _], _ => rfl⟩
  g_corrupt_packet := ⟨fG42, _, fun_mk (st := s_corrupt_packet) lG42 cG42 kG42, PySem.W.mg_of X G aG42, (fun_mk (st := s_corrupt_packet) lG42 cG42 kG42).binds (ps := ["channel", "arguments"]) fun _ _ _ _ _ _ us hl => match us, hl with | [_, _], _ => rfl⟩
  g_packet_list := ⟨fG43, _, fun_mk (st := s_packet_list) lG43 cG43 kG43, PySem.W.mg_of X G aG43, (fun_mk (st := s_packet_list) lG43 cG43 kG43).binds (ps := ["channel"]) fun _ _ _ _ _ _ us hl => match us, hl with | [_], _ => rfl⟩
  g_answers := ⟨fG44, _, fun_mk (st := s_answers) lG44 cG44 kG44, PySem.W.mg_of X G aG44, (fun_mk (st := s_answers) lG44 cG44 kG44).binds (ps := ["calls"]) fun _ _ _ _ _ _ us hl => match us, hl with | [_], _ => rfl⟩
  g_answer_call := ⟨fG45, _, fun_mk (st := s_answer_call) lG45 cG45 kG45, PySem.W.mg_of X G aG45, (fun_mk (st := s_answer_call) lG45 cG45 kG45).binds (ps := ["links", "call_number", "arguments"]) fun _ _ _ _ _ _ us hl => match us, hl with | [_, _, _], _ => rfl⟩
  k_Packet := ⟨⟨fM0_0, _, ⟨mkC0, aM0_0, iM0_0, kcC0⟩, fun_mk (st := s_Packet_init) lM0_0 cM0_0 kM0_0, (fun_mk (st := s_Packet_init) lM0_0 cM0_0 kM0_0).binds (ps := ["self", "fields", "sent_before"]) fun _ _ _ _ _ _ us hl => match us, hl with | [_, _, _], _ => rfl⟩, ⟨pgC0, hdC0, poC0, saC0⟩, PySem.W.mg_of X G aC0, NoAll.all (NoAll.cons nfC0_0 (NoAll.cons nfC0_1 (NoAll.cons nfC0_2 NoAll.nil)))⟩
  m_Packet_is_corrupted := ⟨⟨fM0_1, _, ⟨aM0_1, iM0_1, kM0_1⟩, fun_mk (st := s_Packet_is_corrupted) lM0_1 cM0_1 kM0_1, (fun_mk (st := s_Packet_is_corrupted) lM0_1 cM0_1 kM0_1).binds (ps := ["self"]) fun _ _ _ _ _ _ us hl => match us, hl with | [_], _ => rfl⟩, ⟨pgC0, hdC0, poC0, saC0⟩⟩
  m_Packet_has_place := ⟨⟨fM0_2, _, ⟨aM0_2, iM0_2, kM0_2⟩, fun_mk (st := s_Packet_has_place) lM0_2 cM0_2 kM0_2, (fun_mk (st := s_Packet_has_place) lM0_2 cM0_2 kM0_2).binds (ps := ["self", "place"]) fun _ _ _ _ _ _ us hl => match us, hl with | [_, _], _ => rfl⟩, ⟨pgC0, hdC0, poC0, saC0⟩⟩
  m_Packet_change := ⟨⟨fM0_3, _, ⟨aM0_3, iM0_3, kM0_3⟩, fun_mk (st := s_Packet_change) lM0_3 cM0_3 kM0_3, (fun_mk (st := s_Packet_change) lM0_3 cM0_3 kM0_3).binds (ps := ["self", "place", "number"]) fun _ _ _ _ _ _ us hl => match us, hl with | [_, _, _], _ => rfl⟩, ⟨pgC0, hdC0, poC0, saC0⟩⟩
  k_Channel := ⟨⟨fM1_0, _, ⟨mkC1, aM1_0, iM1_0, kcC1⟩, fun_mk (st := s_Channel_init) lM1_0 cM1_0 kM1_0, (fun_mk (st := s_Channel_init) lM1_0 cM1_0 kM1_0).binds (ps := ["self", "lifetime"]) fun _ _ _ _ _ _ us hl => match us, hl with | [_, _], _ => rfl⟩, ⟨pgC1, hdC1, poC1, saC1⟩, PySem.W.mg_of X G aC1, NoAll.all (NoAll.cons nfC1_0 (NoAll.cons nfC1_1 (NoAll.cons nfC1_2 NoAll.nil)))⟩
  m_Channel_send := ⟨⟨fM1_1, _, ⟨aM1_1, iM1_1, kM1_1⟩, fun_mk (st := s_Channel_send) lM1_1 cM1_1 kM1_1, (fun_mk (st := s_Channel_send) lM1_1 cM1_1 kM1_1).binds (ps := ["self", "fields"]) fun _ _ _ _ _ _ us hl => match us, hl with | [_, _], _ => rfl⟩, ⟨pgC1, hdC1, poC1, saC1⟩⟩
  m_Channel_holds := ⟨⟨fM1_2, _, ⟨aM1_2, iM1_2, kM1_2⟩, fun_mk (st := s_Channel_holds) lM1_2 cM1_2 kM1_2, (fun_mk (st := s_Channel_holds) lM1_2 cM1_2 kM1_2).binds (ps := ["self", "place"]) fun _ _ _ _ _ _ us hl => match us, hl with | [_, _], _ => rfl⟩, ⟨pgC1, hdC1, poC1, saC1⟩⟩
  m_Channel_packet_at := ⟨⟨fM1_3, _, ⟨aM1_3, iM1_3, kM1_3⟩, fun_mk (st := s_Channel_packet_at) lM1_3 cM1_3 kM1_3, (fun_mk (st := s_Channel_packet_at) lM1_3 cM1_3 kM1_3).binds (ps := ["self", "place"]) fun _ _ _ _ _ _ us hl => match us, hl with | [_, _], _ => rfl⟩, ⟨pgC1, hdC1, poC1, saC1⟩⟩
  m_Channel_lose := ⟨⟨fM1_4, _, ⟨aM1_4, iM1_4, kM1_4⟩, fun_mk (st := s_Channel_lose) lM1_4 cM1_4 kM1_4, (fun_mk (st := s_Channel_lose) lM1_4 cM1_4 kM1_4).binds (ps := ["self", "place"]) fun _ _ _ _ _ _ us hl => match us, hl with | [_, _], _ => rfl⟩, ⟨pgC1, hdC1, poC1, saC1⟩⟩
  m_Channel_take_newest := ⟨⟨fM1_5, _, ⟨aM1_5, iM1_5, kM1_5⟩, fun_mk (st := s_Channel_take_newest) lM1_5 cM1_5 kM1_5, (fun_mk (st := s_Channel_take_newest) lM1_5 cM1_5 kM1_5).binds (ps := ["self"]) fun _ _ _ _ _ _ us hl => match us, hl with | [_], _ => rfl⟩, ⟨pgC1, hdC1, poC1, saC1⟩⟩
  k_Receiver := ⟨⟨fM2_0, _, ⟨mkC2, aM2_0, iM2_0, kcC2⟩, fun_mk (st := s_Receiver_init) lM2_0 cM2_0 kM2_0, (fun_mk (st := s_Receiver_init) lM2_0 cM2_0 kM2_0).binds (ps := ["self", "window_size", "modulus", "ordered"]) fun _ _ _ _ _ _ us hl => match us, hl with | [_, _, _, _], _ => rfl⟩, ⟨pgC2, hdC2, poC2, saC2⟩, PySem.W.mg_of X G aC2, NoAll.all (NoAll.cons nfC2_0 (NoAll.cons nfC2_1 (NoAll.cons nfC2_2 (NoAll.cons nfC2_3 (NoAll.cons nfC2_4 (NoAll.cons nfC2_5 NoAll.nil))))))⟩
  m_Receiver_receive_frame := ⟨⟨fM2_1, _, ⟨aM2_1, iM2_1, kM2_1⟩, fun_mk (st := s_Receiver_receive_frame) lM2_1 cM2_1 kM2_1, (fun_mk (st := s_Receiver_receive_frame) lM2_1 cM2_1 kM2_1).binds (ps := ["self", "packet"]) fun _ _ _ _ _ _ us hl => match us, hl with | [_, _], _ => rfl⟩, ⟨pgC2, hdC2, poC2, saC2⟩⟩
  m_Receiver_pass_received := ⟨⟨fM2_2, _, ⟨aM2_2, iM2_2, kM2_2⟩, fun_mk (st := s_Receiver_pass_received) lM2_2 cM2_2 kM2_2, (fun_mk (st := s_Receiver_pass_received) lM2_2 cM2_2 kM2_2).binds (ps := ["self"]) fun _ _ _ _ _ _ us hl => match us, hl with | [_], _ => rfl⟩, ⟨pgC2, hdC2, poC2, saC2⟩⟩
  m_Receiver_deliver := ⟨⟨fM2_3, _, ⟨aM2_3, iM2_3, kM2_3⟩, fun_mk (st := s_Receiver_deliver) lM2_3 cM2_3 kM2_3, (fun_mk (st := s_Receiver_deliver) lM2_3 cM2_3 kM2_3).binds (ps := ["self", "number"]) fun _ _ _ _ _ _ us hl => match us, hl with | [_, _], _ => rfl⟩, ⟨pgC2, hdC2, poC2, saC2⟩⟩
  m_Receiver_has_delivered := ⟨⟨fM2_4, _, ⟨aM2_4, iM2_4, kM2_4⟩, fun_mk (st := s_Receiver_has_delivered) lM2_4 cM2_4 kM2_4, (fun_mk (st := s_Receiver_has_delivered) lM2_4 cM2_4 kM2_4).binds (ps := ["self", "number"]) fun _ _ _ _ _ _ us hl => match us, hl with | [_, _], _ => rfl⟩, ⟨pgC2, hdC2, poC2, saC2⟩⟩
  m_Receiver_received_above := ⟨⟨fM2_5, _, ⟨aM2_5, iM2_5, kM2_5⟩, fun_mk (st := s_Receiver_received_above) lM2_5 cM2_5 kM2_5, (fun_mk (st := s_Receiver_received_above) lM2_5 cM2_5 kM2_5).binds (ps := ["self"]) fun _ _ _ _ _ _ us hl => match us, hl with | [_], _ => rfl⟩, ⟨pgC2, hdC2, poC2, saC2⟩⟩
  m_Receiver_ack_fields := ⟨⟨fM2_6, _, ⟨aM2_6, iM2_6, kM2_6⟩, fun_mk (st := s_Receiver_ack_fields) lM2_6 cM2_6 kM2_6, (fun_mk (st := s_Receiver_ack_fields) lM2_6 cM2_6 kM2_6).binds (ps := ["self"]) fun _ _ _ _ _ _ us hl => match us, hl with | [_], _ => rfl⟩, ⟨pgC2, hdC2, poC2, saC2⟩⟩
  k_Sender := ⟨⟨fM3_0, _, ⟨mkC3, aM3_0, iM3_0, kcC3⟩, fun_mk (st := s_Sender_init) lM3_0 cM3_0 kM3_0, (fun_mk (st := s_Sender_init) lM3_0 cM3_0 kM3_0).binds (ps := ["self", "window_size", "modulus", "frames"]) fun _ _ _ _ _ _ us hl => match us, hl with | [_, _, _, _], _ => rfl⟩, ⟨pgC3, hdC3, poC3, saC3⟩, PySem.W.mg_of X G aC3, NoAll.all (NoAll.cons nfC3_0 (NoAll.cons nfC3_1 (NoAll.cons nfC3_2 (NoAll.cons nfC3_3 (NoAll.cons nfC3_4 (NoAll.cons nfC3_5 (NoAll.cons nfC3_6 (NoAll.cons nfC3_7 NoAll.nil))))))))⟩
  m_Sender_add_item := ⟨⟨fM3_1, _, ⟨aM3_1, iM3_1, kM3_1⟩, fun_mk (st := s_Sender_add_item) lM3_1 cM3_1 kM3_1, (fun_mk (st := s_Sender_add_item) lM3_1 cM3_1 kM3_1).binds (ps := ["self", "item"]) fun _ _ _ _ _ _ us hl => match us, hl with | [_, _], _ => rfl⟩, ⟨pgC3, hdC3, poC3, saC3⟩⟩
  m_Sender_has_content := ⟨⟨fM3_2, _, ⟨aM3_2, iM3_2, kM3_2⟩, fun_mk (st := s_Sender_has_content) lM3_2 cM3_2 kM3_2, (fun_mk (st := s_Sender_has_content) lM3_2 cM3_2 kM3_2).binds (ps := ["self", "number"]) fun _ _ _ _ _ _ us hl => match us, hl with | [_, _], _ => rfl⟩, ⟨pgC3, hdC3, poC3, saC3⟩⟩
  m_Sender_in_window := ⟨⟨fM3_3, _, ⟨aM3_3, iM3_3, kM3_3⟩, fun_mk (st := s_Sender_in_window) lM3_3 cM3_3 kM3_3, (fun_mk (st := s_Sender_in_window) lM3_3 cM3_3 kM3_3).binds (ps := ["self", "number"]) fun _ _ _ _ _ _ us hl => match us, hl with | [_, _], _ => rfl⟩, ⟨pgC3, hdC3, poC3, saC3⟩⟩
  m_Sender_window_count := ⟨⟨fM3_4, _, ⟨aM3_4, iM3_4, kM3_4⟩, fun_mk (st := s_Sender_window_count) lM3_4 cM3_4 kM3_4, (fun_mk (st := s_Sender_window_count) lM3_4 cM3_4 kM3_4).binds (ps := ["self"]) fun _ _ _ _ _ _ us hl => match us, hl with | [_], _ => rfl⟩, ⟨pgC3, hdC3, poC3, saC3⟩⟩
  m_Sender_queue_count := ⟨⟨fM3_5, _, ⟨aM3_5, iM3_5, kM3_5⟩, fun_mk (st := s_Sender_queue_count) lM3_5 cM3_5 kM3_5, (fun_mk (st := s_Sender_queue_count) lM3_5 cM3_5 kM3_5).binds (ps := ["self"]) fun _ _ _ _ _ _ us hl => match us, hl with | [_], _ => rfl⟩, ⟨pgC3, hdC3, poC3, saC3⟩⟩
  m_Sender_awaits_acknowledgement := ⟨⟨fM3_6, _, ⟨aM3_6, iM3_6, kM3_6⟩, fun_mk (st := s_Sender_awaits_acknowledgement) lM3_6 cM3_6 kM3_6, (fun_mk (st := s_Sender_awaits_acknowledgement) lM3_6 cM3_6 kM3_6).binds (ps := ["self", "number"]) fun _ _ _ _ _ _ us hl => match us, hl with | [_, _], _ => rfl⟩, ⟨pgC3, hdC3, poC3, saC3⟩⟩
  m_Sender_unacknowledged := ⟨⟨fM3_7, _, ⟨aM3_7, iM3_7, kM3_7⟩, fun_mk (st := s_Sender_unacknowledged) lM3_7 cM3_7 kM3_7, (fun_mk (st := s_Sender_unacknowledged) lM3_7 cM3_7 kM3_7).binds (ps := ["self"]) fun _ _ _ _ _ _ us hl => match us, hl with | [_], _ => rfl⟩, ⟨pgC3, hdC3, poC3, saC3⟩⟩
  m_Sender_times_of := ⟨⟨fM3_8, _, ⟨aM3_8, iM3_8, kM3_8⟩, fun_mk (st := s_Sender_times_of) lM3_8 cM3_8 kM3_8, (fun_mk (st := s_Sender_times_of) lM3_8 cM3_8 kM3_8).binds (ps := ["self", "numbers"]) fun _ _ _ _ _ _ us hl => match us, hl with | [_, _], _ => rfl⟩, ⟨pgC3, hdC3, poC3, saC3⟩⟩
  m_Sender_drop_contents := ⟨⟨fM3_9, _, ⟨aM3_9, iM3_9, kM3_9⟩, fun_mk (st := s_Sender_drop_contents) lM3_9 cM3_9 kM3_9, (fun_mk (st := s_Sender_drop_contents) lM3_9 cM3_9 kM3_9).binds (ps := ["self", "time"]) fun _ _ _ _ _ _ us hl => match us, hl with | [_, _], _ => rfl⟩, ⟨pgC3, hdC3, poC3, saC3⟩⟩
  m_Sender_send_frame := ⟨⟨fM3_10, _, ⟨aM3_10, iM3_10, kM3_10⟩, fun_mk (st := s_Sender_send_frame) lM3_10 cM3_10 kM3_10, (fun_mk (st := s_Sender_send_frame) lM3_10 cM3_10 kM3_10).binds (ps := ["self", "number"]) fun _ _ _ _ _ _ us hl => match us, hl with | [_, _], _ => rfl⟩, ⟨pgC3, hdC3, poC3, saC3⟩⟩
  m_Sender_receive_ack := ⟨⟨fM3_11, _, ⟨aM3_11, iM3_11, kM3_11⟩, fun_mk (st := s_Sender_receive_ack) lM3_11 cM3_11 kM3_11, (fun_mk (st := s_Sender_receive_ack) lM3_11 cM3_11 kM3_11).binds (ps := ["self", "packet"]) fun _ _ _ _ _ _ us hl => match us, hl with | [_, _], _ => rfl⟩, ⟨pgC3, hdC3, poC3, saC3⟩⟩
  m_Sender_move_window := ⟨⟨fM3_12, _, ⟨aM3_12, iM3_12, kM3_12⟩, fun_mk (st := s_Sender_move_window) lM3_12 cM3_12 kM3_12, (fun_mk (st := s_Sender_move_window) lM3_12 cM3_12 kM3_12).binds (ps := ["self"]) fun _ _ _ _ _ _ us hl => match us, hl with | [_], _ => rfl⟩, ⟨pgC3, hdC3, poC3, saC3⟩⟩
  m_Sender_advance_base := ⟨⟨fM3_13, _, ⟨aM3_13, iM3_13, kM3_13⟩, fun_mk (st := s_Sender_advance_base) lM3_13 cM3_13 kM3_13, (fun_mk (st := s_Sender_advance_base) lM3_13 cM3_13 kM3_13).binds (ps := ["self"]) fun _ _ _ _ _ _ us hl => match us, hl with | [_], _ => rfl⟩, ⟨pgC3, hdC3, poC3, saC3⟩⟩
  m_Sender_fill_window := ⟨⟨fM3_14, _, ⟨aM3_14, iM3_14, kM3_14⟩, fun_mk (st := s_Sender_fill_window) lM3_14 cM3_14 kM3_14, (fun_mk (st := s_Sender_fill_window) lM3_14 cM3_14 kM3_14).binds (ps := ["self"]) fun _ _ _ _ _ _ us hl => match us, hl with | [_], _ => rfl⟩, ⟨pgC3, hdC3, poC3, saC3⟩⟩
  k_Link := ⟨⟨fM4_0, _, ⟨mkC4, aM4_0, iM4_0, kcC4⟩, fun_mk (st := s_Link_init) lM4_0 cM4_0 kM4_0, (fun_mk (st := s_Link_init) lM4_0 cM4_0 kM4_0).binds (ps := ["self", "w", "m", "k", "r", "o"]) fun _ _ _ _ _ _ us hl => match us, hl with | [_, _, _, _, _, _], _ => rfl⟩, ⟨pgC4, hdC4, poC4, saC4⟩, PySem.W.mg_of X G aC4, NoAll.all (NoAll.cons nfC4_0 (NoAll.cons nfC4_1 (NoAll.cons nfC4_2 (NoAll.cons nfC4_3 (NoAll.cons nfC4_4 NoAll.nil)))))⟩
  m_Link_in_transit := ⟨⟨fM4_1, _, ⟨aM4_1, iM4_1, kM4_1⟩, fun_mk (st := s_Link_in_transit) lM4_1 cM4_1 kM4_1, (fun_mk (st := s_Link_in_transit) lM4_1 cM4_1 kM4_1).binds (ps := ["self"]) fun _ _ _ _ _ _ us hl => match us, hl with | [_], _ => rfl⟩, ⟨pgC4, hdC4, poC4, saC4⟩⟩
  m_Link_known_in_transit := ⟨⟨fM4_2, _, ⟨aM4_2, iM4_2, kM4_2⟩, fun_mk (st := s_Link_known_in_transit) lM4_2 cM4_2 kM4_2, (fun_mk (st := s_Link_known_in_transit) lM4_2 cM4_2 kM4_2).binds (ps := ["self"]) fun _ _ _ _ _ _ us hl => match us, hl with | [_], _ => rfl⟩, ⟨pgC4, hdC4, poC4, saC4⟩⟩
  m_Link_repeat_windows := ⟨⟨fM4_3, _, ⟨aM4_3, iM4_3, kM4_3⟩, fun_mk (st := s_Link_repeat_windows) lM4_3 cM4_3 kM4_3, (fun_mk (st := s_Link_repeat_windows) lM4_3 cM4_3 kM4_3).binds (ps := ["self", "round_limit"]) fun _ _ _ _ _ _ us hl => match us, hl with | [_, _], _ => rfl⟩, ⟨pgC4, hdC4, poC4, saC4⟩⟩
  m_Link_repeat_window := ⟨⟨fM4_4, _, ⟨aM4_4, iM4_4, kM4_4⟩, fun_mk (st := s_Link_repeat_window) lM4_4 cM4_4 kM4_4, (fun_mk (st := s_Link_repeat_window) lM4_4 cM4_4 kM4_4).binds (ps := ["self"]) fun _ _ _ _ _ _ us hl => match us, hl with | [_], _ => rfl⟩, ⟨pgC4, hdC4, poC4, saC4⟩⟩
  n_SEND_ITEM := ⟨_, PySem.W.mg_of X G aK0⟩
  n_RETRANSMIT := ⟨_, PySem.W.mg_of X G aK1⟩
  n_DELIVER_FRAME := ⟨_, PySem.W.mg_of X G aK2⟩
  n_SEND_ACK := ⟨_, PySem.W.mg_of X G aK3⟩
  n_DELIVER_ACK := ⟨_, PySem.W.mg_of X G aK4⟩
  n_NO_CONDITION := ⟨_, PySem.W.mg_of X G aK5⟩
  n_FRAME_CONDITION := ⟨_, PySem.W.mg_of X G aK6⟩
  n_ACK_CONDITION := ⟨_, PySem.W.mg_of X G aK7⟩
  n_EVENT_RANGES := ⟨eK8, [eK8_0, eK8_1, eK8_2, eK8_3, eK8_4, eK8_5, eK8_6], PySem.W.mg_of X G aK8, ⟨_, _, _, lK8, rfl, rfl, zK8, vK8⟩, (.cons ⟨_, _, _, lK8_0, rfl, rfl, zK8_0, vK8_0⟩ (.cons ⟨_, _, _, lK8_1, rfl, rfl, zK8_1, vK8_1⟩ (.cons ⟨_, _, _, lK8_2, rfl, rfl, zK8_2, vK8_2⟩ (.cons ⟨_, _, _, lK8_3, rfl, rfl, zK8_3, vK8_3⟩ (.cons ⟨_, _, _, lK8_4, rfl, rfl, zK8_4, vK8_4⟩ (.cons ⟨_, _, _, lK8_5, rfl, rfl, zK8_5, vK8_5⟩ (.cons ⟨_, _, _, lK8_6, rfl, rfl, zK8_6, vK8_6⟩ .nil)))))))⟩
  n_ANTI_MESSAGE_RANGES := ⟨eK9, [eK9_0, eK9_1, eK9_2], PySem.W.mg_of X G aK9, ⟨_, _, _, lK9, rfl, rfl, zK9, vK9⟩, (.cons ⟨_, _, _, lK9_0, rfl, rfl, zK9_0, vK9_0⟩ (.cons ⟨_, _, _, lK9_1, rfl, rfl, zK9_1, vK9_1⟩ (.cons ⟨_, _, _, lK9_2, rfl, rfl, zK9_2, vK9_2⟩ .nil)))⟩
  n_EVENT_TIME_PLACE := ⟨_, PySem.W.mg_of X G aK10⟩
  n_ANTI_MESSAGE_TIME_PLACE := ⟨_, PySem.W.mg_of X G aK11⟩
  n_CHECKSUM_MODULUS := ⟨_, PySem.W.mg_of X G aK12⟩
  n_CORRUPTED := ⟨_, PySem.W.mg_of X G aK13⟩
  n_IGNORED := ⟨_, PySem.W.mg_of X G aK14⟩
  n_ACCEPTED := ⟨_, PySem.W.mg_of X G aK15⟩
  n_LINK_LIMIT := ⟨_, PySem.W.mg_of X G aK16⟩
  n_ITEM_LIMIT := ⟨_, PySem.W.mg_of X G aK17⟩
  n_ROUND_LIMIT := ⟨_, PySem.W.mg_of X G aK18⟩
  n_HIGHEST_TIME_LIMIT := ⟨_, PySem.W.mg_of X G aK19⟩
  n_LOWEST_CHANGE := ⟨_, PySem.W.mg_of X G aK20⟩
  n_HIGHEST_CHANGE := ⟨_, PySem.W.mg_of X G aK21⟩
  n_OUT_OF_RANGE := ⟨_, PySem.W.mg_of X G aK22⟩
  n_NO_LINK := ⟨_, PySem.W.mg_of X G aK23⟩
  n_NO_ITEM := ⟨_, PySem.W.mg_of X G aK24⟩
  n_NO_PACKET := ⟨_, PySem.W.mg_of X G aK25⟩
  n_NOT_AWAITED := ⟨_, PySem.W.mg_of X G aK26⟩
  n_IN_TRANSIT := ⟨_, PySem.W.mg_of X G aK27⟩
  n_FULL := ⟨_, PySem.W.mg_of X G aK28⟩
  n_NOT_SAFE := ⟨_, PySem.W.mg_of X G aK29⟩
  n_ARGUMENT_COUNTS := ⟨eK30, PySem.W.mg_of X G aK30, _, _, _, lK30, rfl, rfl, zK30, vK30⟩
  n_LINK_CALLS := ⟨eK31, dK31, _, PySem.W.mg_of X G aK31, lK31, sK31, EntRaw.ok vK31 (.cons (PySem.W.mg_of X G aG15) (.cons (PySem.W.mg_of X G aG16) (.cons (PySem.W.mg_of X G aG17) (.cons (PySem.W.mg_of X G aG18) (.cons (PySem.W.mg_of X G aG19) (.cons (PySem.W.mg_of X G aG20) (.cons (PySem.W.mg_of X G aG21) (.cons (PySem.W.mg_of X G aG22) (.cons (PySem.W.mg_of X G aG23) (.cons (PySem.W.mg_of X G aG24) (.cons (PySem.W.mg_of X G aG25) (.cons (PySem.W.mg_of X G aG26) (.cons (PySem.W.mg_of X G aG27) (.cons (PySem.W.mg_of X G aG28) (.cons (PySem.W.mg_of X G aG29) (.cons (PySem.W.mg_of X G aG34) .nil))))))))))))))))⟩
  n_SESSION_CALLS := ⟨eK32, dK32, _, PySem.W.mg_of X G aK32, lK32, sK32, EntRaw.ok vK32 (.cons (PySem.W.mg_of X G aG14) (.cons (PySem.W.mg_of X G aG30) (.cons (PySem.W.mg_of X G aG31) (.cons (PySem.W.mg_of X G aG32) (.cons (PySem.W.mg_of X G aG33) (.cons (PySem.W.mg_of X G aG35) .nil))))))⟩
  b_enumerate := PySem.W.mg_none_of X G b_enumerate
  b_len := PySem.W.mg_none_of X G b_len
  b_list := PySem.W.mg_none_of X G b_list
  b_min := PySem.W.mg_none_of X G b_min
  b_range := PySem.W.mg_none_of X G b_range
  b_zip := PySem.W.mg_none_of X G b_zip
end W170

open PySem PySem.W PyProof.Rows
set_option maxHeartbeats 0 in
theorem PySem.Challenge.cw_wrapwindow_s01_answers_holds : PySem.Challenge.rw_wrapwindow_s01_answers.Holds := by
  w_on; k_headS; (case hw => exact ⟨[.list [.int 21]], by decide +kernel, by decide +kernel⟩)
  k_fillS
  refine L2.walk_specK (r := PySem.Challenge.rw_wrapwindow_s01_answers) (k := 12) (CX := L2.CX0) (ps := ["calls"]) (sp := fun K => W170.spAnswers K) (by decide +kernel) rfl rfl ⟨rfl, by decide, by decide⟩ (fun w h Y => PySem.W.kIn_of Y) ?F ?S (fun _ _ _ _ z => z)
  case F =>
    intro w mg fa h Y KX G hmg
    refine' W170.top_answers (W170.facts KX G ?aG0 ?lG0 ?cG0 ?kG0 ?aG1 ?lG1 ?cG1 ?kG1 ?aG2 ?lG2 ?cG2 ?kG2 ?aG3 ?lG3 ?cG3 ?kG3 ?aG4 ?lG4 ?cG4 ?kG4 ?aG5 ?lG5 ?cG5 ?kG5 ?aG6 ?lG6 ?cG6 ?kG6 ?aG7 ?lG7 ?cG7 ?kG7 ?aG8 ?lG8 ?cG8 ?kG8 ?aG9 ?lG9 ?cG9 ?kG9 ?aG10 ?lG10 ?cG10 ?kG10 ?aG11 ?lG11 ?cG11 ?kG11 ?aG12 ?lG12 ?cG12 ?kG12 ?aG13 ?lG13 ?cG13 ?kG13 ?aG14 ?lG14 ?cG14 ?kG14 ?aG15 ?lG15 ?cG15 ?kG15 ?aG16 ?lG16 ?cG16 ?kG16 ?aG17 ?lG17 ?cG17 ?kG17 ?aG18 ?lG18 ?cG18 ?kG18 ?aG19 ?lG19 ?cG19 ?kG19 ?aG20 ?lG20 ?cG20 ?kG20 ?aG21 ?lG21 ?cG21 ?kG21 ?aG22 ?lG22 ?cG22 ?kG22 ?aG23 ?lG23 ?cG23 ?kG23 ?aG24 ?lG24 ?cG24 ?kG24 ?aG25 ?lG25 ?cG25 ?kG25 ?aG26 ?lG26 ?cG26 ?kG26 ?aG27 ?lG27 ?cG27 ?kG27 ?aG28 ?lG28 ?cG28 ?kG28 ?aG29 ?lG29 ?cG29 ?kG29 ?aG30 ?lG30 ?cG30 ?kG30 ?aG31 ?lG31 ?cG31 ?kG31 ?aG32 ?lG32 ?cG32 ?kG32 ?aG33 ?lG33 ?cG33 ?kG33 ?aG34 ?lG34 ?cG34 ?kG34 ?aG35 ?lG35 ?cG35 ?kG35 ?aG36 ?lG36 ?cG36 ?kG36 ?aG37 ?lG37 ?cG37 ?kG37 ?aG38 ?lG38 ?cG38 ?kG38 ?aG39 ?lG39 ?cG39 ?kG39 ?aG40 ?lG40 ?cG40 ?kG40 ?aG41 ?lG41 ?cG41 ?kG41 ?aG42 ?lG42 ?cG42 ?kG42 ?aG43 ?lG43 ?cG43 ?kG43 ?aG44 ?lG44 ?cG44 ?kG44 ?aG45 ?lG45 ?cG45 ?kG45 ?aC0 ?pgC0 ?hdC0 ?poC0 ?saC0 ?mkC0 ?kcC0 ?nfC0_0 ?nfC0_1 ?nfC0_2 ?aM0_0 ?iM0_0 ?lM0_0 ?cM0_0 ?kM0_0 ?aM0_1 ?iM0_1 ?lM0_1 ?cM0_1 ?kM0_1 ?aM0_2 ?iM0_2 ?lM0_2 ?cM0_2 ?kM0_2 ?aM0_3 ?iM0_3 ?lM0_3 ?cM0_3 ?kM0_3 ?aC1 ?pgC1 ?hdC1 ?poC1 ?saC1 ?mkC1 ?kcC1 ?nfC1_0 ?nfC1_1 ?nfC1_2 ?aM1_0 ?iM1_0 ?lM1_0 ?cM1_0 ?kM1_0 ?aM1_1 ?iM1_1 ?lM1_1 ?cM1_1 ?kM1_1 ?aM1_2 ?iM1_2 ?lM1_2 ?cM1_2 ?kM1_2 ?aM1_3 ?iM1_3 ?lM1_3 ?cM1_3 ?kM1_3 ?aM1_4 ?iM1_4 ?lM1_4 ?cM1_4 ?kM1_4 ?aM1_5 ?iM1_5 ?lM1_5 ?cM1_5 ?kM1_5 ?aC2 ?pgC2 ?hdC2 ?poC2 ?saC2 ?mkC2 ?kcC2 ?nfC2_0 ?nfC2_1 ?nfC2_2 ?nfC2_3 ?nfC2_4 ?nfC2_5 ?aM2_0 ?iM2_0 ?lM2_0 ?cM2_0 ?kM2_0 ?aM2_1 ?iM2_1 ?lM2_1 ?cM2_1 ?kM2_1 ?aM2_2 ?iM2_2 ?lM2_2 ?cM2_2 ?kM2_2 ?aM2_3 ?iM2_3 ?lM2_3 ?cM2_3 ?kM2_3 ?aM2_4 ?iM2_4 ?lM2_4 ?cM2_4 ?kM2_4 ?aM2_5 ?iM2_5 ?lM2_5 ?cM2_5 ?kM2_5 ?aM2_6 ?iM2_6 ?lM2_6 ?cM2_6 ?kM2_6 ?aC3 ?pgC3 ?hdC3 ?poC3 ?saC3 ?mkC3 ?kcC3 ?nfC3_0 ?nfC3_1 ?nfC3_2 ?nfC3_3 ?nfC3_4 ?nfC3_5 ?nfC3_6 ?nfC3_7 ?aM3_0 ?iM3_0 ?lM3_0 ?cM3_0 ?kM3_0 ?aM3_1 ?iM3_1 ?lM3_1 ?cM3_1 ?kM3_1 ?aM3_2 ?iM3_2 ?lM3_2 ?cM3_2 ?kM3_2 ?aM3_3 ?iM3_3 ?lM3_3 ?cM3_3 ?kM3_3 ?aM3_4 ?iM3_4 ?lM3_4 ?cM3_4 ?kM3_4 ?aM3_5 ?iM3_5 ?lM3_5 ?cM3_5 ?kM3_5 ?aM3_6 ?iM3_6 ?lM3_6 ?cM3_6 ?kM3_6 ?aM3_7 ?iM3_7 ?lM3_7 ?cM3_7 ?kM3_7 ?aM3_8 ?iM3_8 ?lM3_8 ?cM3_8 ?kM3_8 ?aM3_9 ?iM3_9 ?lM3_9 ?cM3_9 ?kM3_9 ?aM3_10 ?iM3_10 ?lM3_10 ?cM3_10 ?kM3_10 ?aM3_11 ?iM3_11 ?lM3_11 ?cM3_11 ?kM3_11 ?aM3_12 ?iM3_12 ?lM3_12 ?cM3_12 ?kM3_12 ?aM3_13 ?iM3_13 ?lM3_13 ?cM3_13 ?kM3_13 ?aM3_14 ?iM3_14 ?lM3_14 ?cM3_14 ?kM3_14 ?aC4 ?pgC4 ?hdC4 ?poC4 ?saC4 ?mkC4 ?kcC4 ?nfC4_0 ?nfC4_1 ?nfC4_2 ?nfC4_3 ?nfC4_4 ?aM4_0 ?iM4_0 ?lM4_0 ?cM4_0 ?kM4_0 ?aM4_1 ?iM4_1 ?lM4_1 ?cM4_1 ?kM4_1 ?aM4_2 ?iM4_2 ?lM4_2 ?cM4_2 ?kM4_2 ?aM4_3 ?iM4_3 ?lM4_3 ?cM4_3 ?kM4_3 ?aM4_4 ?iM4_4 ?lM4_4 ?cM4_4 ?kM4_4 ?aK0 ?aK1 ?aK2 ?aK3 ?aK4 ?aK5 ?aK6 ?aK7 ?aK8 ?lK8 ?zK8 ?vK8 ?lK8_0 ?zK8_0 ?vK8_0 ?lK8_1 ?zK8_1 ?vK8_1 ?lK8_2 ?zK8_2 ?vK8_2 ?lK8_3 ?zK8_3 ?vK8_3 ?lK8_4 ?zK8_4 ?vK8_4 ?lK8_5 ?zK8_5 ?vK8_5 ?lK8_6 ?zK8_6 ?vK8_6 ?aK9 ?lK9 ?zK9 ?vK9 ?lK9_0 ?zK9_0 ?vK9_0 ?lK9_1 ?zK9_1 ?vK9_1 ?lK9_2 ?zK9_2 ?vK9_2 ?aK10 ?aK11 ?aK12 ?aK13 ?aK14 ?aK15 ?aK16 ?aK17 ?aK18 ?aK19 ?aK20 ?aK21 ?aK22 ?aK23 ?aK24 ?aK25 ?aK26 ?aK27 ?aK28 ?aK29 ?aK30 ?lK30 ?zK30 ?vK30 ?aK31 ?lK31 ?sK31 ?vK31 ?aK32 ?lK32 ?sK32 ?vK32 ?b_enumerate ?b_len ?b_list ?b_min ?b_range ?b_zip) ?hfa
    (case aG0 => k_is)
    (case lG0 => k_is)
    (case cG0 => k_is)
    (case kG0 => k_is)
    (case aG1 => k_is)
    (case lG1 => k_is)
    (case cG1 => k_is)
    (case kG1 => k_is)
    (case aG2 => k_is)
    (case lG2 => k_is)
    (case cG2 => k_is)
    (case kG2 => k_is)
    (case aG3 => k_is)
    (case lG3 => k_is)
    (case cG3 => k_is)
    (case kG3 => k_is)
    (case aG4 => k_is)
    (case lG4 => k_is)
    (case cG4 => k_is)
    (case kG4 => k_is)
    (case aG5 => k_is)
    (case lG5 => k_is)
    (case cG5 => k_is)
    (case kG5 => k_is)
    (case aG6 => k_is)
    (case lG6 => k_is)
    (case cG6 => k_is)
    (case kG6 => k_is)
    (case aG7 => k_is)
    (case lG7 => k_is)
    (case cG7 => k_is)
    (case kG7 => k_is)
    (case aG8 => k_is)
    (case lG8 => k_is)
    (case cG8 => k_is)
    (case kG8 => k_is)
    (case aG9 => k_is)
    (case lG9 => k_is)
    (case cG9 => k_is)
    (case kG9 => k_is)
    (case aG10 => k_is)
    (case lG10 => k_is)
    (case cG10 => k_is)
    (case kG10 => k_is)
    (case aG11 => k_is)
    (case lG11 => k_is)
    (case cG11 => k_is)
    (case kG11 => k_is)
    (case aG12 => k_is)
    (case lG12 => k_is)
    (case cG12 => k_is)
    (case kG12 => k_is)
    (case aG13 => k_is)
    (case lG13 => k_is)
    (case cG13 => k_is)
    (case kG13 => k_is)
    (case aG14 => k_is)
    (case lG14 => k_is)
    (case cG14 => k_is)
    (case kG14 => k_is)
    (case aG15 => k_is)
    (case lG15 => k_is)
    (case cG15 => k_is)
    (case kG15 => k_is)
    (case aG16 => k_is)
    (case lG16 => k_is)
    (case cG16 => k_is)
    (case kG16 => k_is)
    (case aG17 => k_is)
    (case lG17 => k_is)
    (case cG17 => k_is)
    (case kG17 => k_is)
    (case aG18 => k_is)
    (case lG18 => k_is)
    (case cG18 => k_is)
    (case kG18 => k_is)
    (case aG19 => k_is)
    (case lG19 => k_is)
    (case cG19 => k_is)
    (case kG19 => k_is)
    (case aG20 => k_is)
    (case lG20 => k_is)
    (case cG20 => k_is)
    (case kG20 => k_is)
    (case aG21 => k_is)
    (case lG21 => k_is)
    (case cG21 => k_is)
    (case kG21 => k_is)
    (case aG22 => k_is)
    (case lG22 => k_is)
    (case cG22 => k_is)
    (case kG22 => k_is)
    (case aG23 => k_is)
    (case lG23 => k_is)
    (case cG23 => k_is)
    (case kG23 => k_is)
    (case aG24 => k_is)
    (case lG24 => k_is)
    (case cG24 => k_is)
    (case kG24 => k_is)
    (case aG25 => k_is)
    (case lG25 => k_is)
    (case cG25 => k_is)
    (case kG25 => k_is)
    (case aG26 => k_is)
    (case lG26 => k_is)
    (case cG26 => k_is)
    (case kG26 => k_is)
    (case aG27 => k_is)
    (case lG27 => k_is)
    (case cG27 => k_is)
    (case kG27 => k_is)
    (case aG28 => k_is)
    (case lG28 => k_is)
    (case cG28 => k_is)
    (case kG28 => k_is)
    (case aG29 => k_is)
    (case lG29 => k_is)
    (case cG29 => k_is)
    (case kG29 => k_is)
    (case aG30 => k_is)
    (case lG30 => k_is)
    (case cG30 => k_is)
    (case kG30 => k_is)
    (case aG31 => k_is)
    (case lG31 => k_is)
    (case cG31 => k_is)
    (case kG31 => k_is)
    (case aG32 => k_is)
    (case lG32 => k_is)
    (case cG32 => k_is)
    (case kG32 => k_is)
    (case aG33 => k_is)
    (case lG33 => k_is)
    (case cG33 => k_is)
    (case kG33 => k_is)
    (case aG34 => k_is)
    (case lG34 => k_is)
    (case cG34 => k_is)
    (case kG34 => k_is)
    (case aG35 => k_is)
    (case lG35 => k_is)
    (case cG35 => k_is)
    (case kG35 => k_is)
    (case aG36 => k_is)
    (case lG36 => k_is)
    (case cG36 => k_is)
    (case kG36 => k_is)
    (case aG37 => k_is)
    (case lG37 => k_is)
    (case cG37 => k_is)
    (case kG37 => k_is)
    (case aG38 => k_is)
    (case lG38 => k_is)
    (case cG38 => k_is)
    (case kG38 => k_is)
    (case aG39 => k_is)
    (case lG39 => k_is)
    (case cG39 => k_is)
    (case kG39 => k_is)
    (case aG40 => k_is)
    (case lG40 => k_is)
    (case cG40 => k_is)
    (case kG40 => k_is)
    (case aG41 => k_is)
    (case lG41 => k_is)
    (case cG41 => k_is)
    (case kG41 => k_is)
    (case aG42 => k_is)
    (case lG42 => k_is)
    (case cG42 => k_is)
    (case kG42 => k_is)
    (case aG43 => k_is)
    (case lG43 => k_is)
    (case cG43 => k_is)
    (case kG43 => k_is)
    (case aG44 => k_is)
    (case lG44 => k_is)
    (case cG44 => k_is)
    (case kG44 => k_is)
    (case aG45 => k_is)
    (case lG45 => k_is)
    (case cG45 => k_is)
    (case kG45 => k_is)
    (case aC0 => k_is)
    (case pgC0 => k_is)
    (case hdC0 => k_is)
    (case poC0 => k_is)
    (case saC0 => k_is)
    (case mkC0 => k_is)
    (case kcC0 => k_is)
    (case nfC0_0 => k_is)
    (case nfC0_1 => k_is)
    (case nfC0_2 => k_is)
    (case aM0_0 => k_is)
    (case iM0_0 => k_is)
    (case lM0_0 => k_is)
    (case cM0_0 => k_is)
    (case kM0_0 => k_is)
    (case aM0_1 => k_is)
    (case iM0_1 => k_is)
    (case lM0_1 => k_is)
    (case cM0_1 => k_is)
    (case kM0_1 => k_is)
    (case aM0_2 => k_is)
    (case iM0_2 => k_is)
    (case lM0_2 => k_is)
    (case cM0_2 => k_is)
    (case kM0_2 => k_is)
    (case aM0_3 => k_is)
    (case iM0_3 => k_is)
    (case lM0_3 => k_is)
    (case cM0_3 => k_is)
    (case kM0_3 => k_is)
    (case aC1 => k_is)
    (case pgC1 => k_is)
    (case hdC1 => k_is)
    (case poC1 => k_is)
    (case saC1 => k_is)
    (case mkC1 => k_is)
    (case kcC1 => k_is)
    (case nfC1_0 => k_is)
    (case nfC1_1 => k_is)
    (case nfC1_2 => k_is)
    (case aM1_0 => k_is)
    (case iM1_0 => k_is)
    (case lM1_0 => k_is)
    (case cM1_0 => k_is)
    (case kM1_0 => k_is)
    (case aM1_1 => k_is)
    (case iM1_1 => k_is)
    (case lM1_1 => k_is)
    (case cM1_1 => k_is)
    (case kM1_1 => k_is)
    (case aM1_2 => k_is)
    (case iM1_2 => k_is)
    (case lM1_2 => k_is)
    (case cM1_2 => k_is)
    (case kM1_2 => k_is)
    (case aM1_3 => k_is)
    (case iM1_3 => k_is)
    (case lM1_3 => k_is)
    (case cM1_3 => k_is)
    (case kM1_3 => k_is)
    (case aM1_4 => k_is)
    (case iM1_4 => k_is)
    (case lM1_4 => k_is)
    (case cM1_4 => k_is)
    (case kM1_4 => k_is)
    (case aM1_5 => k_is)
    (case iM1_5 => k_is)
    (case lM1_5 => k_is)
    (case cM1_5 => k_is)
    (case kM1_5 => k_is)
    (case aC2 => k_is)
    (case pgC2 => k_is)
    (case hdC2 => k_is)
    (case poC2 => k_is)
    (case saC2 => k_is)
    (case mkC2 => k_is)
    (case kcC2 => k_is)
    (case nfC2_0 => k_is)
    (case nfC2_1 => k_is)
    (case nfC2_2 => k_is)
    (case nfC2_3 => k_is)
    (case nfC2_4 => k_is)
    (case nfC2_5 => k_is)
    (case aM2_0 => k_is)
    (case iM2_0 => k_is)
    (case lM2_0 => k_is)
    (case cM2_0 => k_is)
    (case kM2_0 => k_is)
    (case aM2_1 => k_is)
    (case iM2_1 => k_is)
    (case lM2_1 => k_is)
    (case cM2_1 => k_is)
    (case kM2_1 => k_is)
    (case aM2_2 => k_is)
    (case iM2_2 => k_is)
    (case lM2_2 => k_is)
    (case cM2_2 => k_is)
    (case kM2_2 => k_is)
    (case aM2_3 => k_is)
    (case iM2_3 => k_is)
    (case lM2_3 => k_is)
    (case cM2_3 => k_is)
    (case kM2_3 => k_is)
    (case aM2_4 => k_is)
    (case iM2_4 => k_is)
    (case lM2_4 => k_is)
    (case cM2_4 => k_is)
    (case kM2_4 => k_is)
    (case aM2_5 => k_is)
    (case iM2_5 => k_is)
    (case lM2_5 => k_is)
    (case cM2_5 => k_is)
    (case kM2_5 => k_is)
    (case aM2_6 => k_is)
    (case iM2_6 => k_is)
    (case lM2_6 => k_is)
    (case cM2_6 => k_is)
    (case kM2_6 => k_is)
    (case aC3 => k_is)
    (case pgC3 => k_is)
    (case hdC3 => k_is)
    (case poC3 => k_is)
    (case saC3 => k_is)
    (case mkC3 => k_is)
    (case kcC3 => k_is)
    (case nfC3_0 => k_is)
    (case nfC3_1 => k_is)
    (case nfC3_2 => k_is)
    (case nfC3_3 => k_is)
    (case nfC3_4 => k_is)
    (case nfC3_5 => k_is)
    (case nfC3_6 => k_is)
    (case nfC3_7 => k_is)
    (case aM3_0 => k_is)
    (case iM3_0 => k_is)
    (case lM3_0 => k_is)
    (case cM3_0 => k_is)
    (case kM3_0 => k_is)
    (case aM3_1 => k_is)
    (case iM3_1 => k_is)
    (case lM3_1 => k_is)
    (case cM3_1 => k_is)
    (case kM3_1 => k_is)
    (case aM3_2 => k_is)
    (case iM3_2 => k_is)
    (case lM3_2 => k_is)
    (case cM3_2 => k_is)
    (case kM3_2 => k_is)
    (case aM3_3 => k_is)
    (case iM3_3 => k_is)
    (case lM3_3 => k_is)
    (case cM3_3 => k_is)
    (case kM3_3 => k_is)
    (case aM3_4 => k_is)
    (case iM3_4 => k_is)
    (case lM3_4 => k_is)
    (case cM3_4 => k_is)
    (case kM3_4 => k_is)
    (case aM3_5 => k_is)
    (case iM3_5 => k_is)
    (case lM3_5 => k_is)
    (case cM3_5 => k_is)
    (case kM3_5 => k_is)
    (case aM3_6 => k_is)
    (case iM3_6 => k_is)
    (case lM3_6 => k_is)
    (case cM3_6 => k_is)
    (case kM3_6 => k_is)
    (case aM3_7 => k_is)
    (case iM3_7 => k_is)
    (case lM3_7 => k_is)
    (case cM3_7 => k_is)
    (case kM3_7 => k_is)
    (case aM3_8 => k_is)
    (case iM3_8 => k_is)
    (case lM3_8 => k_is)
    (case cM3_8 => k_is)
    (case kM3_8 => k_is)
    (case aM3_9 => k_is)
    (case iM3_9 => k_is)
    (case lM3_9 => k_is)
    (case cM3_9 => k_is)
    (case kM3_9 => k_is)
    (case aM3_10 => k_is)
    (case iM3_10 => k_is)
    (case lM3_10 => k_is)
    (case cM3_10 => k_is)
    (case kM3_10 => k_is)
    (case aM3_11 => k_is)
    (case iM3_11 => k_is)
    (case lM3_11 => k_is)
    (case cM3_11 => k_is)
    (case kM3_11 => k_is)
    (case aM3_12 => k_is)
    (case iM3_12 => k_is)
    (case lM3_12 => k_is)
    (case cM3_12 => k_is)
    (case kM3_12 => k_is)
    (case aM3_13 => k_is)
    (case iM3_13 => k_is)
    (case lM3_13 => k_is)
    (case cM3_13 => k_is)
    (case kM3_13 => k_is)
    (case aM3_14 => k_is)
    (case iM3_14 => k_is)
    (case lM3_14 => k_is)
    (case cM3_14 => k_is)
    (case kM3_14 => k_is)
    (case aC4 => k_is)
    (case pgC4 => k_is)
    (case hdC4 => k_is)
    (case poC4 => k_is)
    (case saC4 => k_is)
    (case mkC4 => k_is)
    (case kcC4 => k_is)
    (case nfC4_0 => k_is)
    (case nfC4_1 => k_is)
    (case nfC4_2 => k_is)
    (case nfC4_3 => k_is)
    (case nfC4_4 => k_is)
    (case aM4_0 => k_is)
    (case iM4_0 => k_is)
    (case lM4_0 => k_is)
    (case cM4_0 => k_is)
    (case kM4_0 => k_is)
    (case aM4_1 => k_is)
    (case iM4_1 => k_is)
    (case lM4_1 => k_is)
    (case cM4_1 => k_is)
    (case kM4_1 => k_is)
    (case aM4_2 => k_is)
    (case iM4_2 => k_is)
    (case lM4_2 => k_is)
    (case cM4_2 => k_is)
    (case kM4_2 => k_is)
    (case aM4_3 => k_is)
    (case iM4_3 => k_is)
    (case lM4_3 => k_is)
    (case cM4_3 => k_is)
    (case kM4_3 => k_is)
    (case aM4_4 => k_is)
    (case iM4_4 => k_is)
    (case lM4_4 => k_is)
    (case cM4_4 => k_is)
    (case kM4_4 => k_is)
    (case aK0 => k_is)
    (case aK1 => k_is)
    (case aK2 => k_is)
    (case aK3 => k_is)
    (case aK4 => k_is)
    (case aK5 => k_is)
    (case aK6 => k_is)
    (case aK7 => k_is)
    (case aK8 => k_is)
    (case lK8 => k_is)
    (case zK8 => decide)
    (case vK8 => (repeat (first | exact .nil | refine .cons rfl ?_)))
    (case lK8_0 => k_is)
    (case zK8_0 => decide)
    (case vK8_0 => (repeat (first | exact .nil | refine .cons ⟨_, rfl⟩ ?_)))
    (case lK8_1 => k_is)
    (case zK8_1 => decide)
    (case vK8_1 => (repeat (first | exact .nil | refine .cons ⟨_, rfl⟩ ?_)))
    (case lK8_2 => k_is)
    (case zK8_2 => decide)
    (case vK8_2 => (repeat (first | exact .nil | refine .cons ⟨_, rfl⟩ ?_)))
    (case lK8_3 => k_is)
    (case zK8_3 => decide)
    (case vK8_3 => (repeat (first | exact .nil | refine .cons ⟨_, rfl⟩ ?_)))
    (case lK8_4 => k_is)
    (case zK8_4 => decide)
    (case vK8_4 => (repeat (first | exact .nil | refine .cons ⟨_, rfl⟩ ?_)))
    (case lK8_5 => k_is)
    (case zK8_5 => decide)
    (case vK8_5 => (repeat (first | exact .nil | refine .cons ⟨_, rfl⟩ ?_)))
    (case lK8_6 => k_is)
    (case zK8_6 => decide)
    (case vK8_6 => (repeat (first | exact .nil | refine .cons ⟨_, rfl⟩ ?_)))
    (case aK9 => k_is)
    (case lK9 => k_is)
    (case zK9 => decide)
    (case vK9 => (repeat (first | exact .nil | refine .cons rfl ?_)))
    (case lK9_0 => k_is)
    (case zK9_0 => decide)
    (case vK9_0 => (repeat (first | exact .nil | refine .cons ⟨_, rfl⟩ ?_)))
    (case lK9_1 => k_is)
    (case zK9_1 => decide)
    (case vK9_1 => (repeat (first | exact .nil | refine .cons ⟨_, rfl⟩ ?_)))
    (case lK9_2 => k_is)
    (case zK9_2 => decide)
    (case vK9_2 => (repeat (first | exact .nil | refine .cons ⟨_, rfl⟩ ?_)))
    (case aK10 => k_is)
    (case aK11 => k_is)
    (case aK12 => k_is)
    (case aK13 => k_is)
    (case aK14 => k_is)
    (case aK15 => k_is)
    (case aK16 => k_is)
    (case aK17 => k_is)
    (case aK18 => k_is)
    (case aK19 => k_is)
    (case aK20 => k_is)
    (case aK21 => k_is)
    (case aK22 => k_is)
    (case aK23 => k_is)
    (case aK24 => k_is)
    (case aK25 => k_is)
    (case aK26 => k_is)
    (case aK27 => k_is)
    (case aK28 => k_is)
    (case aK29 => k_is)
    (case aK30 => k_is)
    (case lK30 => k_is)
    (case zK30 => decide)
    (case vK30 => (repeat (first | exact .nil | refine .cons ⟨_, rfl⟩ ?_)))
    (case aK31 => k_is)
    (case lK31 => k_is)
    (case sK31 => decide)
    (case vK31 => (repeat (first | exact .nil | refine .cons rfl rfl rfl ?_)))
    (case aK32 => k_is)
    (case lK32 => k_is)
    (case sK32 => decide)
    (case vK32 => (repeat (first | exact .nil | refine .cons rfl rfl rfl ?_)))
    (case b_enumerate => k_is)
    (case b_len => k_is)
    (case b_list => k_is)
    (case b_min => k_is)
    (case b_range => k_is)
    (case b_zip => k_is)
    (case hfa => exact hmg)
  case S =>
    intro K H xs a hO hwi hask hx
    cases hx with
    | cons h1 h2 =>
      cases h2
      cases h1 with
      | lst hs ha =>
        have e := L2.ints_dw a.1 _ ha
        subst e
        obtain ⟨cs, c1, c2, c3, c4⟩ := W170.asked_ok (l := a.1) hask
        refine ⟨_, a.1, cs, rfl, hs, c1, c2, c3, fun H' p hp => ?_⟩
        rw [← c4] at hp
        exact .lst (L2.SqL.of hp) (L2.dw_ints _)
