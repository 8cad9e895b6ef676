/- Of what the proof is made: 3 texts, one behind the other. -/
import Derived.Test.YtkdlcomfpffhhaaGreatDoorM34
import Derived.Test.YtkdlcomfpffhhaaGreatDoorM3
import Derived.Test.YtkdlcomfpffhhaaGreatDoorM5
import Derived.Test.YtkdlcomfpffhhaaGreatDoorM24
import Derived.Test.YtkdlcomfpffhhaaGreatDoorM6
import Derived.Test.YtkdlcomfpffhhaaGreatDoorM17
import Derived.Test.YtkdlcomfpffhhaaGreatDoorM28
import Derived.Test.YtkdlcomfpffhhaaGreatDoorM8
namespace Go.Proofs.YtkdlcomfpffhhaaGreatDoor
open Go.RowKit Corb
set_option maxRecDepth 100000
theorem cutG_small:∀ (l cur:List UInt8),(∀ p∈cutG cur l,p.length≤10)→cur.length+l.length+1≤11*(cutG cur l).length
 | [],cur,h=>by
  have:=h cur (by simp [cutG])
  simp [cutG]; omega
 | b :: l,cur,h=>by
  by_cases e:b=47
  ·
   simp only [cutG,if_pos e] at h ⊢
   have h1:=h cur (by simp)
   have h2:=cutG_small l [] (fun p hp=>h p (by simp [hp]))
   simp at h2 ⊢
   omega
  ·
   simp only [cutG,if_neg e] at h ⊢
   have h2:=cutG_small l (cur++[b]) h
   simp at h2 ⊢
   omega
theorem name_small {l:List UInt8} (h:nameB l=true):l.length≤43:=by
 simp only [nameB,Bool.and_eq_true,List.all_eq_true,decide_eq_true_eq] at h
 have:=cutG_small l [] (fun p hp=>by
  have:=h.1 p hp
  simp only [partB,Bool.and_eq_true,decide_eq_true_eq] at this
  omega)
 have h2:=h.2
 unfold cutP at h2
 simp at this
 omega
theorem ent_facts {n:ByteArray} {y mo d h mi s:Int} {t:ByteArray} (k:entB n y mo d h mi s t=true):n.size≤43∧t.size≤300∧stOk y mo d h mi s=true:=by
 simp only [entB,Bool.and_eq_true,decide_eq_true_eq] at k
 have:=name_small k.1
 exact ⟨by simpa using this,k.2.2,k.2.1⟩
end Go.Proofs.YtkdlcomfpffhhaaGreatDoor
namespace Go.Proofs.YtkdlcomfpffhhaaGreatDoor
open Corb
def unpB (how:Nat) (b:ByteArray):Option ByteArray:=
 if how=0 then some b else if how=8 then (match flateG b with
  | some (T,q)=>if q/8=b.size then some ⟨T.toArray⟩ else none
  | none=>none) else none
def nmB (s:ByteArray):ByteArray:=s.extract 30 (30+wd s.data.toList 26 2)
def bdB (s:ByteArray):ByteArray:=s.extract (30+wd s.data.toList 26 2) (30+wd s.data.toList 26 2+wd s.data.toList 18 4)
def hdB (s:ByteArray):Bool:=decide (30≤s.size)&&(fixB s.data.toList&&decide (30+wd s.data.toList 26 2+wd s.data.toList 18 4≤s.size))
def entG (s T:ByteArray):Bool:=entB (nmB s) (gY (wd s.data.toList 10 4:Nat)) (gM (wd s.data.toList 10 4:Nat)) (gD (wd s.data.toList 10 4:Nat)) (gH (wd s.data.toList 10 4:Nat)) (gI (wd s.data.toList 10 4:Nat)) (gS (wd s.data.toList 10 4:Nat)) T
def locE (s T:ByteArray):Value:=.agg #[.string (nmB s),.int .i64 (gY (wd s.data.toList 10 4:Nat)),.int .i64 (gM (wd s.data.toList 10 4:Nat)),.int .i64 (gD (wd s.data.toList 10 4:Nat)),.int .i64 (gH (wd s.data.toList 10 4:Nat)),.int .i64 (gI (wd s.data.toList 10 4:Nat)),.int .i64 (gS (wd s.data.toList 10 4:Nat)),.string T]
def noE:Value:=.agg #[.string ⟨#[]⟩,.int .i64 0,.int .i64 0,.int .i64 0,.int .i64 0,.int .i64 0,.int .i64 0,.string ⟨#[]⟩]
def fitB (s T:ByteArray):Bool:=decide (wd s.data.toList 14 4=crcMore 0 T.data.toList)&&(decide (wd s.data.toList 22 4=T.size)&&entG s T)
def locG (s:ByteArray):Option ByteArray:=if hdB s then (match unpB (wd s.data.toList 8 2) (bdB s) with
 | some T=>if fitB s T then some T else none
 | none=>none) else none
def locV (s:ByteArray):Value:=match locG s with
 | some T=>.tuple #[locE s T,.int .i64 ((30+wd s.data.toList 26 2+wd s.data.toList 18 4:Nat):Int),.bool true]
 | none=>.tuple #[noE,.int .i64 0,.bool false]
theorem nmB_list (s:ByteArray):(nmB s).data.toList=(s.data.toList.drop 30).take (wd s.data.toList 26 2):=by
 unfold nmB
 rw [ext_list,Nat.add_sub_cancel_left]
theorem hdB_is {s:ByteArray} : hdB s=true↔30≤s.size∧fixB s.data.toList=true∧30+wd s.data.toList 26 2+wd s.data.toList 18 4≤s.size:=by
 simp [hdB]
theorem nmB_size {s:ByteArray} (h:30+wd s.data.toList 26 2≤s.size):(nmB s).size=wd s.data.toList 26 2:=by
 unfold nmB
 rw [ByteArray.size_extract]; omega
theorem bdB_size {s:ByteArray} (h:30+wd s.data.toList 26 2+wd s.data.toList 18 4≤s.size):(bdB s).size=wd s.data.toList 18 4:=by
 unfold bdB
 rw [ByteArray.size_extract]; omega
end Go.Proofs.YtkdlcomfpffhhaaGreatDoor
namespace Go.Proofs.YtkdlcomfpffhhaaGreatDoor
open Go.RowKit Corb
set_option maxRecDepth 100000
def txT (how:Nat) (b:ByteArray):ByteArray:=if how=0 then b else match flateG b with
 | some (T,_)=>⟨T.toArray⟩
 | none=>⟨#[]⟩
def txO (how:Nat) (b:ByteArray):Bool:=(unpB how b).isSome
theorem unp_tx (how:Nat) (b:ByteArray):unpB how b=if txO how b=true then some (txT how b) else none:=by
 unfold txO txT unpB
 by_cases h0:how=0
 ·
  simp [h0]
 ·
  simp only [if_neg h0]
  by_cases h8:how=8
  ·
   simp only [if_pos h8]
   rcases flateG b with _ | ⟨T,q⟩
   ·
    simp
   ·
    by_cases hq:q/8=b.size <;> simp [hq]
  ·
   simp [h8]
theorem flateG_bd {b:ByteArray} {T:List UInt8} {q:Nat} (hf:flateG b=some (T,q)):T.length≤300∧q≤5600:=by
 unfold flateG at hf
 split at hf
 ·
  have:=wholeG_bd hf (by omega)
  exact ⟨this.2.2.2 (by simp),by omega⟩
 ·
  cases hf
theorem tx_small {how:Nat} {b:ByteArray} (hb:b.size≤1048576):(txT how b).size≤1048576:=by
 unfold txT
 split
 ·
  exact hb
 ·
  rcases hf:flateG b with _ | ⟨T,q⟩
  ·
   exact Nat.zero_le _
  ·
   have:=(flateG_bd hf).1
   show T.toArray.size≤_
   simp; omega
set_option maxHeartbeats 1600000 in
theorem l6Text_any (how:Nat) (b:ByteArray) (w:World) (hb:b.size≤1048576) (hh:how<65536) :
  Calls Tryz.prog 105 #[.int .i64 (how:Int),.string b] w fun e w'=>e = .returned (.tuple #[.string (txT how b),.bool (txO how b)])∧Below w.heap.size w w':=by
 by_cases h0:how=0
 ·
  subst h0
  have e1:txT 0 b=b:=by simp [txT]
  have e2:txO 0 b=true:=by simp [txO,unpB]
  rw [e1,e2]
  go_enter Tryz.func105,Tryz.ntmps105
  go_wp2
  go_ret2
  exact ⟨rfl,Below.refl _ _⟩
 ·
  have hhI:(how:Int)<65536:=by omega
  have h0b:((how:Int) == 0)=false:=by simp [h0]
  have CF:=hide (fun W=>specFlateGet_any b W (by omega))
  rcases hf:flateG b with _ | ⟨T,q⟩
  ·
   have e1:txT how b=⟨#[]⟩:=by simp [txT,h0,hf]
   have e2:txO how b=false:=by unfold txO unpB; rw [if_neg h0,hf]; by_cases h8:how=8 <;> simp [h8]
   rw [hf] at CF
   rw [e1,e2]
   simp only [getV] at CF
   clear hb hh hf e1 e2 h0
   go_enter Tryz.func105,Tryz.ntmps105
   go_wp2_with fail
   refine (unhide CF _).mono ?_
   rintro e x1 ⟨rfl,hb1⟩
   have HB1:=hide hb1
   clear hb1
   go_wp2
   go_ret2
   exact ⟨rfl,unhide HB1⟩
  ·
   obtain ⟨hT,hq⟩:=flateG_bd hf
   have e1:txT how b=⟨T.toArray⟩:=by simp [txT,h0,hf]
   have e2:txO how b=(decide (how=8)&&decide (q/8=b.size)):=by
    unfold txO unpB
    rw [if_neg h0,hf]
    by_cases h8:how=8
    ·
     by_cases h9:q/8=b.size <;> simp [h8,h9]
    ·
     simp [h8]
   rw [hf] at CF
   rw [e1,e2]
   simp only [getV] at CF
   clear hb hh hf e1 e2 hq h0
   generalize (⟨T.toArray⟩:ByteArray)=X at *
   by_cases h8:how=8
   ·
    subst h8
    by_cases h9:q/8=b.size
    ·
     rw [show (decide (8=8)&&decide (q/8=b.size))=true by simp [h9]]
     rw [h9] at CF
     clear h9
     go_enter Tryz.func105,Tryz.ntmps105
     go_wp2_with fail
     refine (unhide CF _).mono ?_
     rintro e x1 ⟨rfl,hb1⟩
     have HB1:=hide hb1
     clear hb1
     go_wp2
     go_ret2
     exact ⟨rfl,unhide HB1⟩
    ·
     have h9b:(((q/8:Nat):Int) == (b.size:Int))=false:=by simp; omega
     rw [show (decide (8=8)&&decide (q/8=b.size))=false by simp [h9]]
     clear h9
     generalize q/8=q8 at *
     go_enter Tryz.func105,Tryz.ntmps105
     go_wp2_with fail
     refine (unhide CF _).mono ?_
     rintro e x1 ⟨rfl,hb1⟩
     have HB1:=hide hb1
     clear hb1
     go_wp2
     go_ret2
     exact ⟨rfl,unhide HB1⟩
   ·
    have h8b:((how:Int) == 8)=false:=by simp; omega
    rw [show (decide (how=8)&&decide (q/8=b.size))=false by simp [h8]]
    clear h8
    generalize q/8=q8 at *
    go_enter Tryz.func105,Tryz.ntmps105
    go_wp2_with fail
    refine (unhide CF _).mono ?_
    rintro e x1 ⟨rfl,hb1⟩
    have HB1:=hide hb1
    clear hb1
    go_wp2
    go_ret2
    exact ⟨rfl,unhide HB1⟩
end Go.Proofs.YtkdlcomfpffhhaaGreatDoor
