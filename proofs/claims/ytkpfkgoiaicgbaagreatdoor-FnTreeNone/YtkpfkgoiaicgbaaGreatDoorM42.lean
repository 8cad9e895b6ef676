/- Of what the proof is made. -/
import Derived.Test.YtkpfkgoiaicgbaaGreatDoorM5
import Derived.Test.YtkpfkgoiaicgbaaGreatDoorM40
import Derived.Test.YtkpfkgoiaicgbaaGreatDoorM20
import Derived.Test.YtkpfkgoiaicgbaaGreatDoorM27
import Derived.Test.YtkpfkgoiaicgbaaGreatDoorM9
import Derived.Lib.QuietBelow
import Derived.Test.YtkpfkgoiaicgbaaGreatDoorM28
import Derived.Test.YtkpfkgoiaicgbaaGreatDoorM6
import Derived.Deep.RegionHeld3
import Derived.Deep.RegionLawGrows
import Derived.Test.YtkpfkgoiaicgbaaGreatDoorM25
import Derived.Test.YtkpfkgoiaicgbaaGreatDoorM11
import Derived.Test.YtkpfkgoiaicgbaaGreatDoorM2
import Derived.Test.YtkpfkgoiaicgbaaGreatDoorM17
import Derived.Test.YtkpfkgoiaicgbaaGreatDoorM22
import Derived.Test.YtkpfkgoiaicgbaaGreatDoorShelf
import Derived.Test.YtkpfkgoiaicgbaaGreatDoorM16
import Derived.Test.YtkpfkgoiaicgbaaGreatDoorM8
import Derived.Test.YtkpfkgoiaicgbaaGreatDoorM7
import Derived.Test.YtkpfkgoiaicgbaaGreatDoorM38
set_option linter.unusedSimpArgs false
set_option linter.unusedVariables false
namespace Go.Proofs.YtkpfkgoiaicgbaaGreatDoor
open Go.RowKit Corb
set_option maxRecDepth 100000
theorem rp(n t:ByteArray)(N:Nat):(cJ n t N).data.toList=(bJ (eW t) N (aQ 0 t.data.toList) (bj t).size t.size n).data.toList++(bj t).data.toList:=by
 unfold cJ;simp
theorem qq(t:ByteArray):(bj t).size<=t.size:=by unfold bj;split<;>omega
theorem tt(t:ByteArray):eW t<=8:=by unfold eW;split<;>omega
theorem pj{n t:ByteArray}{N:Nat}(hN:N<4294967296)(hn:n.size<65536)(ht:t.size<4294967296) :
  (cJ n t N).size=30+n.size+(bj t).size/\wd (cJ n t N).data.toList 14 4=aQ 0 t.data.toList/\wd (cJ n t N).data.toList 22 4=t.size/\(cJ n t N).extract 30 (30+n.size)=n:=by
 have hb:=qq t;have hh:=tt t;obtain⟨_,_,_,r3,_,r5,_,r7,_⟩:=qJ (how:=eW t) (st:=N) (crc:=aQ 0 t.data.toList) (pk:=(bj t).size) (lg:=t.size) (nm:=n) (bj t).data.toList (by omega) hN (jk _ _ (by omega)) (by omega) ht hn;rw[←rp]at r3 r5 r7;refine⟨?_,r3,r5,eg ?_⟩
 · unfold cJ bJ;rw[ByteArray.size_append,ByteArray.size_append,ByteArray.size_append,fL];show 4+26+_+_=_;omega
 · rw[ext_list,Nat.add_sub_cancel_left,r7]
end Go.Proofs.YtkpfkgoiaicgbaaGreatDoor
namespace Go.Proofs.YtkpfkgoiaicgbaaGreatDoor
open Corb
def pV(how:Nat)(b:ByteArray):Option ByteArray:=
 if how=0 then some b else if how=8 then(match cH b with
  | some (T,q)=>if q/8=b.size then some ⟨T.toArray⟩else none
  | none=>none)else none
def nmB(s:ByteArray):ByteArray:=s.extract 30 (30+wd s.data.toList 26 2)
def bdB(s:ByteArray):ByteArray:=s.extract (30+wd s.data.toList 26 2) (30+wd s.data.toList 26 2+wd s.data.toList 18 4)
def hdB(s:ByteArray):Bool:=decide (30<=s.size)&&(pL s.data.toList&&decide (30+wd s.data.toList 26 2+wd s.data.toList 18 4<=s.size))
def Db(s T:ByteArray):Bool:=j8 (nmB s) (gY (wd s.data.toList 10 4:Nat)) (gM (wd s.data.toList 10 4:Nat)) (gD (wd s.data.toList 10 4:Nat)) (gH (wd s.data.toList 10 4:Nat)) (gI (wd s.data.toList 10 4:Nat)) (gS (wd s.data.toList 10 4:Nat)) T
def GL(s T:ByteArray):Value:=.agg #[.string (nmB s),.int .i64 (gY (wd s.data.toList 10 4:Nat)),.int .i64 (gM (wd s.data.toList 10 4:Nat)),.int .i64 (gD (wd s.data.toList 10 4:Nat)),.int .i64 (gH (wd s.data.toList 10 4:Nat)),.int .i64 (gI (wd s.data.toList 10 4:Nat)),.int .i64 (gS (wd s.data.toList 10 4:Nat)),.string T]
def noE:Value:=.agg #[.string ⟨#[]⟩,.int .i64 0,.int .i64 0,.int .i64 0,.int .i64 0,.int .i64 0,.int .i64 0,.string ⟨#[]⟩]
def JY(s T:ByteArray):Bool:=decide (wd s.data.toList 14 4=aQ 0 T.data.toList)&&(decide (wd s.data.toList 22 4=T.size)&&Db s T)
def gj(s:ByteArray):Option ByteArray:=if hdB s then(match pV (wd s.data.toList 8 2) (bdB s)with
 | some T=>if JY s T then some T else none
 | none=>none)else none
def z7(s:ByteArray):Value:=match gj s with
 | some T=>.tuple #[GL s T,.int .i64 ((30+wd s.data.toList 26 2+wd s.data.toList 18 4:Nat):Int),.bool true]
 | none=>.tuple #[noE,.int .i64 0,.bool false]
theorem xE(s:ByteArray):(nmB s).data.toList=(s.data.toList.drop 30).take (wd s.data.toList 26 2):=by
 unfold nmB;rw[ext_list,Nat.add_sub_cancel_left]
theorem FA(s:ByteArray):(bdB s).data.toList=(s.data.toList.drop (30+wd s.data.toList 26 2)).take (wd s.data.toList 18 4):=by
 unfold bdB;rw[ext_list,Nat.add_sub_cancel_left]
theorem uO{s:ByteArray} : hdB s=true<->30<=s.size/\pL s.data.toList=true/\30+wd s.data.toList 26 2+wd s.data.toList 18 4<=s.size:=by
 simp[hdB]
theorem xF{s:ByteArray}(h:30+wd s.data.toList 26 2<=s.size):(nmB s).size=wd s.data.toList 26 2:=by
 unfold nmB;rw[ByteArray.size_extract];omega
theorem FB{s:ByteArray}(h:30+wd s.data.toList 26 2+wd s.data.toList 18 4<=s.size):(bdB s).size=wd s.data.toList 18 4:=by
 unfold bdB;rw[ByteArray.size_extract];omega
end Go.Proofs.YtkpfkgoiaicgbaaGreatDoor
namespace Go.Proofs.YtkpfkgoiaicgbaaGreatDoor
open Go.RowKit Corb
set_option maxRecDepth 100000
def txT(how:Nat)(b:ByteArray):ByteArray:=if how=0 then b else match cH b with
 | some (T,_)=>⟨T.toArray⟩
 | none=>⟨#[]⟩
def txO(how:Nat)(b:ByteArray):Bool:=(pV how b).isSome
theorem Mo(how:Nat)(b:ByteArray):pV how b=if txO how b=true then some (txT how b)else none:=by
 unfold txO txT pV;by_cases h0:how=0
 · simp[h0]
 ·
  simp only[if_neg h0];by_cases h8:how=8
  ·
   simp only[if_pos h8];rcases cH b with _|⟨T,q⟩
   · simp
   · by_cases hq:q/8=b.size<;>simp[hq]
  · simp[h8]
theorem tq{b:ByteArray}{T:List UInt8}{q:Nat}(hf:cH b=some (T,q)):T.length<=300/\q<=5600:=by
 unfold cH at hf
 split at hf
 · have:=uo hf (by omega);exact⟨this.2.2.2 (by simp),by omega⟩
 · cases hf
theorem Je{how:Nat}{b:ByteArray}(hb:b.size<=1048576):(txT how b).size<=1048576:=by
 unfold txT
 split
 · exact hb
 ·
  rcases hf:cH b with _|⟨T,q⟩
  · exact Nat.zero_le _
  · have:=(tq hf).1;show T.toArray.size<=_;simp;omega
end Go.Proofs.YtkpfkgoiaicgbaaGreatDoor
set_option linter.unusedSimpArgs false
set_option linter.unusedVariables false
set_option maxHeartbeats 12800000
namespace Go.Proofs.YtkpfkgoiaicgbaaGreatDoor
open Go.RowKit Corb
set_option maxRecDepth 100000
def Wds(W:World)(B g c:Nat)(s:ByteArray):Prop:=Blk W B [.slice (some ⟨g,0,none⟩) 15 c]/\g<W.heap.size/\∀j,j<15->W.cell? ⟨g,j,none⟩=some (.int .i64 ((wd s.data.toList (2*j) 2:Nat):Int))
theorem Wds.later{W W':World}{B g c:Nat}{s:ByteArray}(h:Wds W B g c s)(hb:Below W.heap.size W W'):Wds W' B g c s:=
 ⟨h.1.later hb h.1.1,Nat.lt_of_lt_of_le h.2.1 hb.size,fun j hj=>(hb.cell (p:=⟨g,j,none⟩) h.2.1).trans (h.2.2 j hj)⟩
theorem Wds.drew{W:World}{B g c:Nat}{s:ByteArray}(h:Wds W B g c s):Wds W.drew B g c s:=h
theorem Wds.set{W:World}{B g c A:Nat}{s:ByteArray}(h:Wds W B g c s)(h1:B≠A)(h2:g≠A)(o:Nat)(v:Value):Wds (W.setCell ⟨A,o,none⟩ v) B g c s:=
 ⟨h.1.set_other v h1,by simpa using h.2.1,fun j hj=>(World.cell?_of_block (w:=W) (Below.heap_setCell W ⟨A,o,none⟩ v g h2)).trans (h.2.2 j hj)⟩
theorem MJ{x y:Nat}(hx:x<65536)(hy:y<65536):bits .or .i64 (x:Int) ((y:Int)*65536)=((x+65536*y:Nat):Int):=by
 rw[iY 16 (x:Int) ((y:Int)*65536) (by omega) (by omega) (by omega) (by omega) (by omega) (by omega)];omega
theorem jq(k B g c:Nat)(s:ByteArray)(w:World)(h:Wds w B g c s)(hk:k+1<15)(hl:30<=s.size) :
  Calls Tryz.prog 108 #[.int .i64 (k:Int),.pointer (some ⟨B,0,none⟩)] w fun e w'=>e = .returned (.int .i64 ((wd s.data.toList (2*k) 4:Nat):Int))/\Below w.heap.size w w':=by
 have c1:=h.1.cell 0 _ rfl;have c2:=h.2.2 k (by omega);have c3:=h.2.2 (k+1) hk;have hkI:(k:Int)+1<15:=by omega
 have hk0:0<=(k:Int)+1:=by omega
 have hX:=kQ s.data.toList (2*k);have hY:=kQ s.data.toList (2*(k+1));have HE:Hid (∀hl:2*k+2<=s.data.toList.length,wd s.data.toList (2*k) 4=wd s.data.toList (2*k) 2+65536*wd s.data.toList (2*(k+1)) 2):=fun hl=>M0 hl;generalize wd s.data.toList (2*k) 2=X at *
 generalize wd s.data.toList (2*(k+1)) 2=Y at *
 have HW:=af (MJ hX hY);have hYI:(Y:Int)<65536:=by omega
 clear h hX hY;go_enter Tryz.func108,Tryz.ntmps108;go_wp2_with fail
 go_quiet (fail)
 go_wp2;go_ret;exact⟨aR (by rw[ae HW,ae HE (by simp;omega)]),below_drewN (Below.refl _ _) _⟩
theorem jy(s:ByteArray)(w:World)(hs:s.size<=281474976710656) :
  Calls Tryz.prog 43 #[.string s] w fun e w'=>e = .returned (.string s)/\Below w.heap.size w w':=by
 go_enter Tryz.func43,Tryz.ntmps43;go_wp2_with fail;refine(Tryz.stringslite_Clone s _ hs).mono ?_;rintro e x1 ⟨rfl,hb1⟩;go_wp2;go_ret;exact⟨rfl,hb1⟩
def uxT(how:Nat)(b:ByteArray):ByteArray:=if how=0∨how=8 then txT how b else⟨#[]⟩
theorem yK{how:Nat}{b:ByteArray}(hb:b.size<=1048576):(uxT how b).size<=1048576:=by
 unfold uxT
 split
 · exact Je hb
 · exact Nat.zero_le _
theorem Mp{how:Nat}{b:ByteArray}(h:txO how b=true):uxT how b=txT how b:=by
 unfold uxT;rw[if_pos];unfold txO pV at h;by_cases h0:how=0
 · exact .inl h0
 ·
  rw[if_neg h0]at h;by_cases h8:how=8
  · exact .inr h8
  · rw[if_neg h8]at h;cases h
theorem DJ(how:Nat)(st crc pk lg:Int)(nm b:ByteArray)(w:World)(hb:b.size<=1048576)(hh:how<65536)(hO:dk w) :
  Calls Tryz.prog 109 #[.agg #[.int .i64 (how:Int),.int .i64 st,.int .i64 crc,.int .i64 pk,.int .i64 lg,.string nm,.string b]] w fun e w'=>e = .returned (.tuple #[.string (uxT how b),.bool (txO how b)])/\Below w.heap.size w w':=by
 have hmix:Tryz.prog.follows .mixedOrders=true:=by kernel_rfl
 have B0:=af ((Below.refl w.heap.size w).alloc (Nat.le_refl _) (.cells #[.int .i64 (how:Int),.int .i64 st,.int .i64 crc,.int .i64 pk,.int .i64 lg,.string nm,.string b] 60));have R0:=af (aS w #[.int .i64 (how:Int),.int .i64 st,.int .i64 crc,.int .i64 pk,.int .i64 lg,.string nm,.string b] 60);have hhI:(how:Int)<65536:=by omega
 by_cases h0:how=0
 ·
  subst h0;have e1:uxT 0 b=b:=by simp[uxT,txT]
  have e2:txO 0 b=true:=by simp[txO,pV]
  rw[e1,e2];have CC:=af (fun W=>jy b W (by omega));clear hO hb hh e1 e2;go_enter Tryz.func109,Tryz.ntmps109;go_wp2_with fail;refine(ae CC _).mono ?_;rintro e x1 ⟨rfl,hb1⟩;have HB1:=af (aj (ae B0) hb1);clear hb1;go_wp2
  go_ret2
  exact⟨rfl,ae HB1⟩
 ·
  by_cases h8:how=8
  ·
   subst h8;have CF:=af (fun W (hO:dk W)=>oq b W (by omega) hO);have HO:=af (hO.later (ae B0));rcases hf:cH b with _|⟨T,q⟩
   ·
    have e1:uxT 8 b=⟨#[]⟩:=by simp[uxT,txT,hf]
    have e2:txO 8 b=false:=by simp[txO,pV,hf]
    rw[hf]at CF;rw[e1,e2];simp only[Dr]at CF;clear hb hh hf e1 e2 h0 hO;go_enter Tryz.func109,Tryz.ntmps109;go_wp2_with fail;refine(ae CF _ (ae HO)).mono ?_;rintro e x1 ⟨rfl,hb1⟩;have HB1:=af (aj (ae B0) hb1);have c6:=((ae R0).later hb1 (ae R0).1).cell 6 _ rfl;clear hb1;go_wp2_with fail;have k6:=cell_regrown c6;refine wp_region_quiet_below hmix (by kernel_rfl) ?_;repeat (quiet_step (fail))
    refine wpQuiet_nil ?_;intro zw hw';obtain⟨⟨dq,osq⟩,hw2⟩:=hw';have HZ:=below_regrown x1 dq osq;rw[←hw2]at HZ;have BZ:=af (aj (ae HB1) HZ);clear hw2 HZ k6 c6;go_wp2
    go_ret2
    exact⟨rfl,ae BZ⟩
   ·
    obtain⟨hT,hq⟩:=tq hf;have e1:uxT 8 b=⟨T.toArray⟩:=by simp[uxT,txT,hf]
    have e2:txO 8 b=decide (((q/8:Nat):Int)=(b.size:Int)):=by
     unfold txO pV;rw[if_neg h0,if_pos rfl,hf];by_cases h9:q/8=b.size
     · rw[decide_eq_true (by omega)];simp[h9]
     · rw[decide_eq_false (by omega)];simp[h9]
    rw[hf]at CF;rw[e1,e2];simp only[Dr]at CF;clear hb hh hf e1 e2 h0 hq hO;generalize (⟨T.toArray⟩:ByteArray)=X at *
    generalize q/8=q8 at *
    go_enter Tryz.func109,Tryz.ntmps109;go_wp2_with fail;refine(ae CF _ (ae HO)).mono ?_;rintro e x1 ⟨rfl,hb1⟩;have HB1:=af (aj (ae B0) hb1);have c6:=((ae R0).later hb1 (ae R0).1).cell 6 _ rfl;clear hb1;go_wp2_with fail;have k6:=cell_regrown c6;refine wp_region_quiet_below hmix (by kernel_rfl) ?_;repeat (quiet_step (fail))
    refine wpQuiet_nil ?_;intro zw hw';obtain⟨⟨dq,osq⟩,hw2⟩:=hw';have HZ:=below_regrown x1 dq osq;rw[←hw2]at HZ;have BZ:=af (aj (ae HB1) HZ);clear hw2 HZ k6 c6;go_wp2
    go_ret2
    exact⟨rfl,ae BZ⟩
  ·
   have h8b:((how:Int) == 8)=false:=by simp;omega
   have h0b:((how:Int) == 0)=false:=by simp[h0]
   have e1:uxT how b=⟨#[]⟩:=by simp[uxT,h0,h8]
   have e2:txO how b=false:=by simp[txO,pV,h0,h8]
   rw[e1,e2];clear hb hh e1 e2 h0 h8 hO;go_enter Tryz.func109,Tryz.ntmps109;go_wp2
   go_ret2
   exact⟨rfl,ae B0⟩
theorem L3{s:ByteArray}(h:hdB s=true):z7 s=if ((txO (wd s.data.toList 8 2) (bdB s)&&(decide (wd s.data.toList 14 4=aQ 0 (txT (wd s.data.toList 8 2) (bdB s)).data.toList)&&decide (wd s.data.toList 22 4=(txT (wd s.data.toList 8 2) (bdB s)).size)))&&Db s (txT (wd s.data.toList 8 2) (bdB s)))=true then .tuple #[GL s (txT (wd s.data.toList 8 2) (bdB s)),.int .i64 ((30+wd s.data.toList 26 2+wd s.data.toList 18 4:Nat):Int),.bool true]else .tuple #[noE,.int .i64 0,.bool false]:=by
 unfold z7 gj;rw[if_pos h,Mo];cases ho:txO (wd s.data.toList 8 2) (bdB s)
 · simp
 ·
  simp only[if_true,JY];by_cases c1:wd s.data.toList 14 4=aQ 0 (txT (wd s.data.toList 8 2) (bdB s)).data.toList
  ·
   by_cases c2:wd s.data.toList 22 4=(txT (wd s.data.toList 8 2) (bdB s)).size
   · by_cases c3:Db s (txT (wd s.data.toList 8 2) (bdB s))=true<;>simp[c1,c2,c3]
   · simp[c2]
  · simp[c1]
def HgS(w W:World):Prop:=Below w.heap.size w W/\Blk W w.heap.size [.int .i64 0,.int .i64 0,.int .i64 0,.int .i64 0,.int .i64 0,.string ⟨#[]⟩,.string ⟨#[]⟩]
theorem HgS.later{w W W':World}(k:HgS w W)(hb:Below W.heap.size W W'):HgS w W':=⟨aj k.1 hb,k.2.later hb k.2.1⟩
theorem HgS.drew{w W:World}(k:HgS w W):HgS w W.drew:=⟨k.1.drew,k.2.drew⟩
theorem HgS.set{w W:World}(k:HgS w W){A:Nat}(hA:w.heap.size<A)(o:Nat)(v:Value):HgS w (W.setCell ⟨A,o,none⟩ v):=⟨ai k.1 (Nat.le_of_lt hA) _,k.2.set_other v (by omega)⟩
theorem HgS.set6{w W:World}(k:HgS w W){A:Nat}(hA:w.heap.size<A)(a0 a1 a2 a3 a4 a5:Value):HgS w ((((((W.setCell ⟨A,0,none⟩ a0).setCell ⟨A,1,none⟩ a1).setCell ⟨A,2,none⟩ a2).setCell ⟨A,3,none⟩ a3).setCell ⟨A,4,none⟩ a4).setCell ⟨A,5,none⟩ a5):=((((((k.set hA 0 a0).set hA 1 a1).set hA 2 a2).set hA 3 a3).set hA 4 a4).set hA 5 a5)
theorem HgS.set7{w W:World}(k:HgS w W){A:Nat}(hA:w.heap.size<A)(a0 a1 a2 a3 a4 a5 a6:Value):HgS w (((((((W.setCell ⟨A,0,none⟩ a0).setCell ⟨A,1,none⟩ a1).setCell ⟨A,2,none⟩ a2).setCell ⟨A,3,none⟩ a3).setCell ⟨A,4,none⟩ a4).setCell ⟨A,5,none⟩ a5).setCell ⟨A,6,none⟩ a6):=(((((((k.set hA 0 a0).set hA 1 a1).set hA 2 a2).set hA 3 a3).set hA 4 a4).set hA 5 a5).set hA 6 a6)
theorem Wds.set6{W:World}{B g c A:Nat}{s:ByteArray}(h:Wds W B g c s)(h1:B≠A)(h2:g≠A)(a0 a1 a2 a3 a4 a5:Value):Wds ((((((W.setCell ⟨A,0,none⟩ a0).setCell ⟨A,1,none⟩ a1).setCell ⟨A,2,none⟩ a2).setCell ⟨A,3,none⟩ a3).setCell ⟨A,4,none⟩ a4).setCell ⟨A,5,none⟩ a5) B g c s:=((((((h.set h1 h2 0 a0).set h1 h2 1 a1).set h1 h2 2 a2).set h1 h2 3 a3).set h1 h2 4 a4).set h1 h2 5 a5)
def Flo(w W:World)(z:List Value)(o:Option Nat)(E:World->Prop)(N:Nat->Prop):Prop:=HgS w W/\E W/\(∀V V':World,Below V.heap.size V V'->E V->E V')/\∀A,o=some A->w.heap.size<A/\N A/\Blk W A z
theorem Flo.call{w W W':World}{z:List Value}{o:Option Nat}{E E':World->Prop}{N N':Nat->Prop}(h:Flo w W z o E N)(b:Below W.heap.size W W')(e:E' W')(m:∀V V':World,Below V.heap.size V V'->E' V->E' V')(n:∀A,N A->A<W.heap.size->N' A):Flo w W' z o E' N':=
 ⟨h.1.later b,e,m,fun A q=>have r:=h.2.2.2 A q; ⟨r.1,n A r.2.1 r.2.2.1,r.2.2.later b r.2.2.1⟩⟩
theorem Flo.later{w W W':World}{z:List Value}{o:Option Nat}{E:World->Prop}{N:Nat->Prop}(h:Flo w W z o E N)(b:Below W.heap.size W W'):Flo w W' z o E N:=h.call b (h.2.2.1 _ _ b h.2.1) h.2.2.1 (fun _ k _=>k)
theorem Flo.lay{w W:World}{z:List Value}{E:World->Prop}{N:Nat->Prop}(h:Flo w W z none E N)(n:N W.heap.size)(u:TypeId):Flo w (W.alloc (.cells z.toArray u)) z (some W.heap.size) E N:=
 have b:Below W.heap.size W (W.alloc (.cells z.toArray u)):=(Below.refl _ _).alloc (Nat.le_refl _) _
 ⟨h.1.later b,h.2.2.1 _ _ b h.2.1,h.2.2.1,fun A q=>by
  obtain rfl:=Option.some.inj q;exact⟨h.1.2.1,n,aS W z.toArray u⟩⟩
theorem Li{W:World}{g A:Nat}{s:ByteArray}(h:g<W.heap.size/\∀j,j<15->W.cell? ⟨g,j,none⟩=some (.int .i64 ((wd s.data.toList (2*j) 2:Nat):Int)))(hA:g≠A)(o:Nat)(v:Value):g<(W.setCell ⟨A,o,none⟩ v).heap.size/\∀j,j<15->(W.setCell ⟨A,o,none⟩ v).cell? ⟨g,j,none⟩=some (.int .i64 ((wd s.data.toList (2*j) 2:Nat):Int)):=
 ⟨by simpa using h.1,fun j hj=>(World.cell?_of_block (w:=W) (Below.heap_setCell W ⟨A,o,none⟩ v g hA)).trans (h.2 j hj)⟩
theorem uP(s:ByteArray)(a:Option Addr)(w:World)(h:bC w a (List.replicate 15 16))(h30:30<=s.size) :
  Calls Tryz.prog 106 #[.string (s.extract 0 30),.slice a 15 15] w fun e w'=>∃g c,e = .returned (.tuple #[.slice (some ⟨g,0,none⟩) 15 c,.bool true])/\(w.heap.size<=g/\g<w'.heap.size)/\(∀j,j<15->w'.cell? ⟨g,j,none⟩=some (.int .i64 ((wd s.data.toList (2*j) 2:Nat):Int)))/\Below w.heap.size w w':=by
 have e0:(s.extract 0 30).data.toList=s.data.toList.take 30:=by rw[ext_list,List.drop_zero]
 have hl:30<=s.data.toList.length:=by simpa using h30
 have hz:(s.extract 0 30).size<=2000000:=by rw[ByteArray.size_extract];omega
 refine(pO (s.extract 0 30) a 15 (List.replicate 15 16) w h hz (by simp)).mono ?_;rintro e w' ⟨v,rfl,ho,hb⟩;rw[e0]at ho;rw[e0,uQ hl];have hn:=Gn hl;obtain⟨b,c,rfl⟩:=ho.formN hn;obtain⟨g,rfl⟩:=ho.somes (by rw[hn];decide);refine⟨g,c,rfl,ho.below,fun j hj=>?_,hb⟩;have:=(ho.at hn hj).1;rw[zK hl j hj]at this;exact this
def HgO(s:ByteArray)(a b c d f:Nat)(n t:ByteArray):Prop:=a<65536/\b<4294967296/\c<4294967296/\d<4294967296/\f<4294967296/\n.size<=s.size/\t.size<=s.size
def HgP(s:ByteArray)(e:Ending):Prop:=
 (hdB s=true/\e = .returned (.tuple #[.agg #[.int .i64 (wd s.data.toList 8 2:Nat),.int .i64 (wd s.data.toList 10 4:Nat),.int .i64 (wd s.data.toList 14 4:Nat),.int .i64 (wd s.data.toList 18 4:Nat),.int .i64 (wd s.data.toList 22 4:Nat),.string (nmB s),.string (bdB s)],.bool true])) ∨
 (hdB s=false/\∃(a b c d f:Nat) (n t:ByteArray),HgO s a b c d f n t/\e = .returned (.tuple #[.agg #[.int .i64 (a:Nat),.int .i64 (b:Nat),.int .i64 (c:Nat),.int .i64 (d:Nat),.int .i64 (f:Nat),.string n,.string t],.bool false]))
theorem Gr{s:ByteArray}(h:hdB s=false)(a b c d f:Nat)(n t:ByteArray)(k:HgO s a b c d f n t):HgP s (.returned (.tuple #[.agg #[.int .i64 (a:Nat),.int .i64 (b:Nat),.int .i64 (c:Nat),.int .i64 (d:Nat),.int .i64 (f:Nat),.string n,.string t],.bool false])):=.inr ⟨h,a,b,c,d,f,n,t,k,rfl⟩
theorem wK{s:ByteArray} : HgO s 0 0 0 0 0 ⟨#[]⟩ ⟨#[]⟩:=⟨by decide,by decide,by decide,by decide,by decide,Nat.zero_le _,Nat.zero_le _⟩
theorem oB(s:ByteArray)(w:World)(hs:s.size<=1048576) :
  Calls Tryz.prog 65 #[.string s] w fun e w'=>HgP s e/\Below w.heap.size w w':=by
 have hmix:Tryz.prog.follows .mixedOrders=true:=by kernel_rfl
 have hsI:(s.size:Int)<=1048576:=by omega
 have T0:Hid (HgS w (w.alloc (.cells #[.int .i64 0,.int .i64 0,.int .i64 0,.int .i64 0,.int .i64 0,.string ⟨#[]⟩,.string ⟨#[]⟩] 60))):=⟨(Below.refl _ _).alloc (Nat.le_refl _) _,aS w #[.int .i64 0,.int .i64 0,.int .i64 0,.int .i64 0,.int .i64 0,.string ⟨#[]⟩,.string ⟨#[]⟩] 60⟩;by_cases h30:30<=s.size
 ·
  have hx0:s.extract 0 30=s.extract 0 30:=rfl;obtain⟨HD,hHD⟩:∃x,s.extract 0 30=x:=⟨_,rfl⟩;have CRep:Hid (∀pb W,W.cell? ⟨pb,0,none⟩=some (.int .i64 16)->Calls Tryz.prog 107 #[.slice (some ⟨pb,0,none⟩) 1 1,.int .i64 15] W fun e w'=>e = .returned (.slice (some ⟨W.heap.size,0,none⟩) 15 15)/\ar w' W.heap.size (.slice (some ⟨W.heap.size,0,none⟩) 15 15) (List.replicate 15 16)/\Below W.heap.size W w'):=fun pb W h=>my 16 15 1 pb 0 W h (by omega) (by omega);have CB:Hid (∀a W,bC W a (List.replicate 15 16)->Calls Tryz.prog 106 #[.string HD,.slice a 15 15] W fun e w'=>∃g c,e = .returned (.tuple #[.slice (some ⟨g,0,none⟩) 15 c,.bool true])/\(W.heap.size<=g/\g<w'.heap.size)/\(∀j,j<15->w'.cell? ⟨g,j,none⟩=some (.int .i64 ((wd s.data.toList (2*j) 2:Nat):Int)))/\Below W.heap.size W w'):=by rw[←hHD];exact fun a W h=>uP s a W h h30
  obtain⟨HW,hHW⟩:∃x,wd s.data.toList 8 2=x:=⟨_,rfl⟩;obtain⟨ST,hST⟩:∃x,wd s.data.toList 10 4=x:=⟨_,rfl⟩;obtain⟨CR,hCR⟩:∃x,wd s.data.toList 14 4=x:=⟨_,rfl⟩;obtain⟨PK,hPK⟩:∃x,wd s.data.toList 18 4=x:=⟨_,rfl⟩;obtain⟨LN,hLN⟩:∃x,wd s.data.toList 22 4=x:=⟨_,rfl⟩;obtain⟨NL,hNL⟩:∃x,wd s.data.toList 26 2=x:=⟨_,rfl⟩;have HALL:=af (And.intro hHW (And.intro hST (And.intro hCR (And.intro hPK (And.intro hLN hNL)))));have lHW:HW<65536:=by rw[←hHW];exact kQ _ _
  have lST:ST<4294967296:=by rw[←hST];exact ec _ _
  have lCR:CR<4294967296:=by rw[←hCR];exact ec _ _
  have lPK:PK<4294967296:=by rw[←hPK];exact ec _ _
  have lLN:LN<4294967296:=by rw[←hLN];exact ec _ _
  have lNL:NL<65536:=by rw[←hNL];exact kQ _ _
  have h30I:30<=(s.size:Int):=by omega
  have h30b:decide ((s.size:Int)<30)=false:=by simp;omega
  have HLT:=af (And.intro lHW (And.intro lST (And.intro lCR (And.intro lPK (And.intro lLN lNL)))));have hNLI:(NL:Int)<65536:=by omega
  have hPKI:(PK:Int)<4294967296:=by omega
  have H30:=af h30;clear hHW hST hCR hPK hLN hNL lHW lST lCR lPK lLN lNL h30 hx0;go_enter Tryz.func65,Tryz.ntmps65;go_wp2_with fail;go_cut[4,5] (fun v u wx=>(∃B g c,v = .pointer (some ⟨B,0,none⟩)/\w.heap.size<B/\w.heap.size<g/\HgS w wx/\Wds wx B g c s)/\u = .bool true)
  case first=>
   obtain⟨W0,hW0⟩:∃x,w.alloc (.cells #[.int .i64 0,.int .i64 0,.int .i64 0,.int .i64 0,.int .i64 0,.string ⟨#[]⟩,.string ⟨#[]⟩] 60)=x:=⟨_,rfl⟩;rw[hW0]at T0;rw[hW0];clear hW0;refine wp_region_held_drew (S:=fun _=>True) hmix trivial (fun _=>?_);refine ag 0 (.string s) rfl (by kernel_rfl) (fun _ _ _ h=>h) rfl (fun W hSw=>by go_simp) trivial ?_;refine ag 1 (.string HD) rfl (by kernel_rfl) (fun _ _ _ h=>h) rfl (fun W hSw=>by go_simp) trivial ?_;have T1:=af (ae T0).drew;clear T0;generalize W0.drew=W1 at *
   have X:Hid (Flo w W1 [.slice none 0 0] none (fun _=>True) (fun _=>True)):=⟨ae T1,trivial,fun _ _ _ h=>h,nofun⟩;clear T1;refine wpAnyH_ready (rs:=[2,8]) (by kernel_rfl) (by simp) ?_;refine AllReadyH.cons rfl (fun K hK=>?c1) (AllReadyH.cons rfl (fun K hK=>?a1) AllReadyH.nil)
   case' a1=>
    go_simp
    replace X:=af ((ae X).lay trivial 154)
    refine Shut.out hK _ _ trivial (fun _=>?_);clear hK K;generalize W1.heap.size=A at *
    generalize W1.alloc (.cells #[.slice none 0 0] 154)=W1 at *
    refine ah 2 (by kernel_rfl) rfl fun K hK=>?_
   all_goals
    go_simp;have Bd:Below W1.heap.size W1 (W1.alloc (.cells #[.int .i64 16] 3)):=(Below.refl _ _).alloc (Nat.le_refl _) _
    replace X:=af ((ae X).call (E':=fun V=>Blk V W1.heap.size [.int .i64 16]) (N':=fun _=>True) Bd (aS W1 #[.int .i64 16] 3) (fun _ _ b h=>Blk.later h b h.1) (fun _ _ _=>trivial))
    refine Shut.out hK _ _ trivial (fun _=>?_);clear hK K Bd;generalize W1.heap.size=pb at *
    generalize W1.alloc (.cells #[.int .i64 16] 3)=W2 at *
   case' c1=>
    refine wpAnyH_ready (rs:=[3,8]) (by kernel_rfl) (by simp) ?_;refine AllReadyH.cons rfl (fun K hK=>?c2) (AllReadyH.cons rfl (fun K hK=>?a2) AllReadyH.nil)
    case' a2=>
     go_simp
     replace X:=af ((ae X).lay trivial 154)
     refine Shut.out hK _ _ trivial (fun _=>?_);clear hK K;generalize W2.heap.size=A at *
     generalize W2.alloc (.cells #[.slice none 0 0] 154)=W2 at *
     refine ah 3 (by kernel_rfl) rfl fun K hK=>?_
   case' a1=>
    refine ah 3 (by kernel_rfl) rfl fun K hK=>?_
   all_goals
    go_simp;go_at_call 107;refine(ae CRep pb W2 (Blk.cell (ae X).2.1 0 _ rfl)).mono ?_;rintro e W3 ⟨rfl,ho,Bd⟩
    replace X:=af ((ae X).call (E':=fun V=>bC V (some ⟨W2.heap.size,0,none⟩) (List.replicate 15 16)) (N':=fun _=>True) Bd (ar.rowN (n:=15) (by simp) ho) (fun _ _ b h=>bC.later h b) (fun _ _ _=>trivial))
    refine Shut.out hK _ _ trivial (fun _=>?_);clear hK K ho Bd;generalize W2.heap.size=rb at *
   case' c2=>
    refine wpAnyH_ready (rs:=[4,8]) (by kernel_rfl) (by simp) ?_;refine AllReadyH.cons rfl (fun K hK=>?c3) (AllReadyH.cons rfl (fun K hK=>?a3) AllReadyH.nil)
    case' a3=>
     go_simp
     replace X:=af ((ae X).lay trivial 154)
     refine Shut.out hK _ _ trivial (fun _=>?_);clear hK K;generalize W3.heap.size=A at *
     generalize W3.alloc (.cells #[.slice none 0 0] 154)=W3 at *
     refine ah 4 (by kernel_rfl) rfl fun K hK=>?_
   case' a1|a2=>
    refine ah 4 (by kernel_rfl) rfl fun K hK=>?_
   all_goals
    go_simp;go_at_call 106;refine(ae CB (some ⟨rb,0,none⟩) W3 (ae X).2.1).mono ?_;rintro e W4 ⟨g,c,rfl,hgl,hcells,Bd⟩;have hg0:w.heap.size<g:=Nat.lt_of_lt_of_le (ae X).1.2.1 hgl.1
    replace X:=af ((ae X).call (E':=fun V=>g<V.heap.size/\∀j,j<15->V.cell? ⟨g,j,none⟩=some (.int .i64 ((wd s.data.toList (2*j) 2:Nat):Int))) (N':=fun A=>g≠A) Bd ⟨hgl.2,hcells⟩ (fun _ _ b h=>⟨Nat.lt_of_lt_of_le h.1 b.size,fun j hj=>(b.cell (p:=⟨g,j,none⟩) h.1).trans (h.2 j hj)⟩) (fun A _ hA=>Nat.ne_of_gt (Nat.lt_of_lt_of_le hA hgl.1)))
    refine Shut.out hK _ _ trivial (fun _=>?_);clear hK K hgl hcells Bd;refine ag 5 (.tuple #[.slice (some ⟨g,0,none⟩) 15 c,.bool true]) rfl (by kernel_rfl) (fun _ _ _ h=>h) rfl (fun W hSw=>by go_simp) trivial ?_;refine ag 6 (.slice (some ⟨g,0,none⟩) 15 c) rfl (by kernel_rfl) (fun _ _ _ h=>h) rfl (fun W hSw=>by go_simp) trivial ?_;refine ag 7 (.bool true) rfl (by kernel_rfl) (fun _ _ _ h=>h) rfl (fun W hSw=>by go_simp) trivial ?_
   case' c3=>
    refine ah 8 (by kernel_rfl) rfl fun K hK=>?_;go_simp
    replace X:=af ((ae X).lay (Nat.ne_of_lt (ae X).2.1.1) 154)
    refine Shut.out hK _ _ trivial (fun _=>?_);clear hK K;generalize W4.heap.size=A at *
    generalize W4.alloc (.cells #[.slice none 0 0] 154)=W4 at *
   all_goals
    refine ah 9 (by kernel_rfl) rfl fun K hK=>?_;obtain⟨T5,G5,_,R⟩:=ae X;obtain⟨hA,hAg,R5⟩:=R _ rfl;have a0:=R5.cell 0 _ rfl;have f0:=R5.free 0 (by decide);have T5:=af T5;have G5:=af G5;have R5:=af R5;clear X R;go_simp;have TX':=af ((ae T5).set hA 0 (.slice (some ⟨g,0,none⟩) 15 c));have RX':=af ((ae R5).set 0 (.slice (some ⟨g,0,none⟩) 15 c));have GX':=af (Li (ae G5) hAg 0 (.slice (some ⟨g,0,none⟩) 15 c));clear a0 f0;refine Shut.out hK _ _ trivial (fun _=>?_);clear hK K;refine ah 10 (by kernel_rfl) rfl fun K hK=>?_;go_simp;refine Shut.out hK _ _ trivial (fun _=>?_);clear hK K;refine wpAnyH_done (by kernel_rfl) ?_ _;go_wp2_with fail
    go_meet
    case rel=>exact⟨⟨A,g,c,rfl,hA,hg0,ae TX',ae RX',(ae GX').1,(ae GX').2⟩,rfl⟩
  case rest=>
   obtain⟨⟨B,g,c,rfl,hB0,hg0,T1',G1'⟩,rfl⟩:=hcut;have T1:=af T1';have G1:=af G1';clear T1' G1' T0;have C5:Hid (∀W,Wds W B g c s->Calls Tryz.prog 108 #[.int .i64 5,.pointer (some ⟨B,0,none⟩)] W fun e w'=>e = .returned (.int .i64 (ST:Nat))/\Below W.heap.size W w'):=fun W h=>by rw[←(ae HALL).2.1];exact jq 5 B g c s W h (by omega) (ae H30)
   have C7:Hid (∀W,Wds W B g c s->Calls Tryz.prog 108 #[.int .i64 7,.pointer (some ⟨B,0,none⟩)] W fun e w'=>e = .returned (.int .i64 (CR:Nat))/\Below W.heap.size W w'):=fun W h=>by rw[←(ae HALL).2.2.1];exact jq 7 B g c s W h (by omega) (ae H30)
   have C9:Hid (∀W,Wds W B g c s->Calls Tryz.prog 108 #[.int .i64 9,.pointer (some ⟨B,0,none⟩)] W fun e w'=>e = .returned (.int .i64 (PK:Nat))/\Below W.heap.size W w'):=fun W h=>by rw[←(ae HALL).2.2.2.1];exact jq 9 B g c s W h (by omega) (ae H30)
   have C11:Hid (∀W,Wds W B g c s->Calls Tryz.prog 108 #[.int .i64 11,.pointer (some ⟨B,0,none⟩)] W fun e w'=>e = .returned (.int .i64 (LN:Nat))/\Below W.heap.size W w'):=fun W h=>by rw[←(ae HALL).2.2.2.2.1];exact jq 11 B g c s W h (by omega) (ae H30)
   have W4:Hid (∀W,Wds W B g c s->W.cell? ⟨g,4,none⟩=some (.int .i64 (HW:Nat))):=fun W h=>by rw[←(ae HALL).1];exact h.2.2 4 (by omega)
   have W13:Hid (∀W,Wds W B g c s->W.cell? ⟨g,13,none⟩=some (.int .i64 (NL:Nat))):=fun W h=>by rw[←(ae HALL).2.2.2.2.2];exact h.2.2 13 (by omega)
   go_wp2_with fail;go_cut[7] (fun v wx=>∃A,v = .pointer (some ⟨A,0,none⟩)/\w.heap.size<A/\B<A/\g<A/\HgS w wx/\Wds wx B g c s/\Blk wx A [.int .i64 (HW:Nat),.int .i64 (ST:Nat),.int .i64 (CR:Nat),.int .i64 (PK:Nat),.int .i64 (LN:Nat),.string ⟨#[]⟩])
   case first=>
    refine wp_region_held_drew (S:=fun W=>Wds W B g c s) hmix (ae G1).drew (fun hS=>?_);refine ag 0 (.slice (some ⟨g,0,none⟩) 15 c) rfl (by kernel_rfl) (fun _ _ _ h=>h) rfl (fun W hSw=>by have s0:=Blk.cell hSw.1 0 _ rfl;go_simp) hS ?_;refine ag 1 (.pointer (some ⟨g,4,none⟩)) rfl (by kernel_rfl) (fun _ _ _ h=>h) rfl (fun W hSw=>by go_simp) hS ?_;refine ag 2 (.int .i64 (HW:Nat)) rfl (by kernel_rfl) (fun _ _ _ h=>h) rfl (fun W hSw=>by have s1:=ae W4 W hSw;go_simp) hS ?_;refine ag 3 (.func (.func 108) #[] #[.pointer (some ⟨B,0,none⟩)]) rfl (by kernel_rfl) (fun _ _ _ h=>h) rfl (fun W hSw=>by go_simp) hS ?_;refine ag 5 (.func (.func 108) #[] #[.pointer (some ⟨B,0,none⟩)]) rfl (by kernel_rfl) (fun _ _ _ h=>h) rfl (fun W hSw=>by go_simp) hS ?_;refine ag 7 (.func (.func 108) #[] #[.pointer (some ⟨B,0,none⟩)]) rfl (by kernel_rfl) (fun _ _ _ h=>h) rfl (fun W hSw=>by go_simp) hS ?_;refine ag 9 (.func (.func 108) #[] #[.pointer (some ⟨B,0,none⟩)]) rfl (by kernel_rfl) (fun _ _ _ h=>h) rfl (fun W hSw=>by go_simp) hS ?_;have T2:=af (ae T1).drew;have G2:=af (ae G1).drew;clear T1 G1;generalize wc.drew=W2 at *
    have X:Hid (Flo w W2 [.int .i64 0,.int .i64 0,.int .i64 0,.int .i64 0,.int .i64 0,.string ⟨#[]⟩] none (fun V=>Wds V B g c s) (fun A=>B<A/\g<A)):=⟨ae T2,ae G2,fun _ _ b h=>Wds.later h b,nofun⟩;clear T2 G2;refine wpAnyH_ready (rs:=[4,12]) (by kernel_rfl) (by simp) ?_;refine AllReadyH.cons rfl (fun K hK=>?d1) (AllReadyH.cons rfl (fun K hK=>?e1) AllReadyH.nil)
    case' e1=>
     go_simp
     replace X:=af ((ae X).lay ⟨(ae X).2.1.1.1,(ae X).2.1.2.1⟩ 58)
     refine Shut.out hK _ _ (ae X).2.1 (fun hS=>?_);clear hK K;generalize W2.heap.size=A at *
     generalize W2.alloc (.cells #[.int .i64 0,.int .i64 0,.int .i64 0,.int .i64 0,.int .i64 0,.string ⟨#[]⟩] 58)=W2 at *
     refine ah 4 (by kernel_rfl) rfl fun K hK=>?_
    all_goals
     go_simp;go_at_call 108;refine(ae C5 W2 (ae X).2.1).mono ?_;rintro e W3 ⟨rfl,Bd⟩
     replace X:=af ((ae X).later Bd)
     refine Shut.out hK _ _ (ae X).2.1 (fun hS=>?_);clear hK K Bd
    case' d1=>
     refine wpAnyH_ready (rs:=[6,12]) (by kernel_rfl) (by simp) ?_;refine AllReadyH.cons rfl (fun K hK=>?d2) (AllReadyH.cons rfl (fun K hK=>?e2) AllReadyH.nil)
     case' e2=>
      go_simp
      replace X:=af ((ae X).lay ⟨(ae X).2.1.1.1,(ae X).2.1.2.1⟩ 58)
      refine Shut.out hK _ _ (ae X).2.1 (fun hS=>?_);clear hK K;generalize W3.heap.size=A at *
      generalize W3.alloc (.cells #[.int .i64 0,.int .i64 0,.int .i64 0,.int .i64 0,.int .i64 0,.string ⟨#[]⟩] 58)=W3 at *
      refine ah 6 (by kernel_rfl) rfl fun K hK=>?_
    case' e1=>
     refine ah 6 (by kernel_rfl) rfl fun K hK=>?_
    all_goals
     go_simp;go_at_call 108;refine(ae C7 W3 (ae X).2.1).mono ?_;rintro e W4 ⟨rfl,Bd⟩
     replace X:=af ((ae X).later Bd)
     refine Shut.out hK _ _ (ae X).2.1 (fun hS=>?_);clear hK K Bd
    case' d2=>
     refine wpAnyH_ready (rs:=[8,12]) (by kernel_rfl) (by simp) ?_;refine AllReadyH.cons rfl (fun K hK=>?d3) (AllReadyH.cons rfl (fun K hK=>?e3) AllReadyH.nil)
     case' e3=>
      go_simp
      replace X:=af ((ae X).lay ⟨(ae X).2.1.1.1,(ae X).2.1.2.1⟩ 58)
      refine Shut.out hK _ _ (ae X).2.1 (fun hS=>?_);clear hK K;generalize W4.heap.size=A at *
      generalize W4.alloc (.cells #[.int .i64 0,.int .i64 0,.int .i64 0,.int .i64 0,.int .i64 0,.string ⟨#[]⟩] 58)=W4 at *
      refine ah 8 (by kernel_rfl) rfl fun K hK=>?_
    case' e1|e2=>
     refine ah 8 (by kernel_rfl) rfl fun K hK=>?_
    all_goals
     go_simp;go_at_call 108;refine(ae C9 W4 (ae X).2.1).mono ?_;rintro e W5 ⟨rfl,Bd⟩
     replace X:=af ((ae X).later Bd)
     refine Shut.out hK _ _ (ae X).2.1 (fun hS=>?_);clear hK K Bd
    case' d3=>
     refine wpAnyH_ready (rs:=[10,12]) (by kernel_rfl) (by simp) ?_;refine AllReadyH.cons rfl (fun K hK=>?d4) (AllReadyH.cons rfl (fun K hK=>?e4) AllReadyH.nil)
     case' e4=>
      go_simp
      replace X:=af ((ae X).lay ⟨(ae X).2.1.1.1,(ae X).2.1.2.1⟩ 58)
      refine Shut.out hK _ _ (ae X).2.1 (fun hS=>?_);clear hK K;generalize W5.heap.size=A at *
      generalize W5.alloc (.cells #[.int .i64 0,.int .i64 0,.int .i64 0,.int .i64 0,.int .i64 0,.string ⟨#[]⟩] 58)=W5 at *
      refine ah 10 (by kernel_rfl) rfl fun K hK=>?_
    case' e1|e2|e3=>
     refine ah 10 (by kernel_rfl) rfl fun K hK=>?_
    all_goals
     go_simp;go_at_call 108;refine(ae C11 W5 (ae X).2.1).mono ?_;rintro e W6 ⟨rfl,Bd⟩
     replace X:=af ((ae X).later Bd)
     refine Shut.out hK _ _ (ae X).2.1 (fun hS=>?_);clear hK K Bd;refine ag 11 (.agg #[.int .i64 (HW:Nat),.int .i64 (ST:Nat),.int .i64 (CR:Nat),.int .i64 (PK:Nat),.int .i64 (LN:Nat),.string ⟨#[]⟩]) rfl (by kernel_rfl) (fun _ _ _ h=>h) rfl (fun W hSw=>by go_simp) hS ?_
    case' d4=>
     refine ah 12 (by kernel_rfl) rfl fun K hK=>?_;go_simp
     replace X:=af ((ae X).lay ⟨(ae X).2.1.1.1,(ae X).2.1.2.1⟩ 58)
     refine Shut.out hK _ _ (ae X).2.1 (fun hS=>?_);clear hK K;generalize W6.heap.size=A at *
     generalize W6.alloc (.cells #[.int .i64 0,.int .i64 0,.int .i64 0,.int .i64 0,.int .i64 0,.string ⟨#[]⟩] 58)=W6 at *
    all_goals
     refine ah 13 (by kernel_rfl) rfl fun K hK=>?_;obtain⟨T7,G7,_,R⟩:=ae X;obtain⟨hA,⟨hBA,hgA⟩,R7⟩:=R _ rfl;have aA:=R7.cells (n:=6) rfl;have fA:=R7.frees (n:=6) rfl;have T7:=af T7;have G7:=af G7;have R7:=af R7;clear X R;go_simp;have TX':=af ((ae T7).set6 hA (.int .i64 (HW:Nat)) (.int .i64 (ST:Nat)) (.int .i64 (CR:Nat)) (.int .i64 (PK:Nat)) (.int .i64 (LN:Nat)) (.string ⟨#[]⟩));have RX':=af ((ae R7).set6 (.int .i64 (HW:Nat)) (.int .i64 (ST:Nat)) (.int .i64 (CR:Nat)) (.int .i64 (PK:Nat)) (.int .i64 (LN:Nat)) (.string ⟨#[]⟩));have GX':=af ((ae G7).set6 (Nat.ne_of_lt hBA) (Nat.ne_of_lt hgA) (.int .i64 (HW:Nat)) (.int .i64 (ST:Nat)) (.int .i64 (CR:Nat)) (.int .i64 (PK:Nat)) (.int .i64 (LN:Nat)) (.string ⟨#[]⟩));clear aA fA;refine Shut.out hK _ _ (ae GX') (fun hS=>?_);clear hK K;refine wpAnyH_done (by kernel_rfl) ?_ _;go_wp2_with fail
     go_meet
     case rel=>exact⟨A,rfl,hA,hBA,hgA,ae TX',ae GX',ae RX'⟩
   case rest=>
    obtain⟨A,rfl,hA,hBA,hgA,T2',G2',R2'⟩:=hcut;have T2:=af T2';have G2:=af G2';have R2:=af R2';clear T2' G2' R2' T1 G1 C5 C7 C9 C11;have c0:=(ae G2).1.cell 0 _ rfl;have c13:=ae W13 _ (ae G2);have r3:=(ae R2).cell 3 _ rfl;have r5:=(ae R2).cell 5 _ rfl;have q5:=(ae R2).free 5 (by simp);have hw30:IntKind.i64.wrap (30+(NL:Int))=30+(NL:Int):=by rw[IntKind.wrap_i64];omega
    have hw31:IntKind.i64.wrap (30+(NL:Int)+(PK:Int))=30+(NL:Int)+(PK:Int):=by rw[IntKind.wrap_i64];omega
    by_cases hto:30+NL+PK<=s.size
    ·
     have htoI:30+(NL:Int)+(PK:Int)<=(s.size:Int):=by omega
     have htoJ:decide ((s.size:Int)<30+(NL:Int)+(PK:Int))=false:=by simpa using htoI
     have hn30:(30+(NL:Int)).toNat=30+NL:=by omega
     have hn31:(30+(NL:Int)+(PK:Int)).toNat=30+NL+PK:=by omega
     have hq30:30<=30+(NL:Int):=by omega
     have hq31:30+(NL:Int)<=30+(NL:Int)+(PK:Int):=by omega
     have hq32:0<=30+(NL:Int)+(PK:Int):=by omega
     have hq33:30+(NL:Int)<=(s.size:Int):=by omega
     have hq34:0<=30+(NL:Int):=by omega
     have hx1:s.extract 30 (30+NL)=nmB s:=by unfold nmB;rw[(ae HALL).2.2.2.2.2]
     have hx2:s.extract (30+NL) (30+NL+PK)=bdB s:=by unfold bdB;rw[(ae HALL).2.2.2.2.2,(ae HALL).2.2.2.1]
     have HPr:Hid ((bJ HW ST CR PK LN (nmB s)).data.toList.isPrefixOf s.data.toList=pL s.data.toList):=by
      have hh:=Gp (l:=s.data.toList) (nm:=nmB s) (by rw[(ae HALL).2.2.2.2.2];simp;omega) (xE s);rw[(ae HALL).1,(ae HALL).2.1,(ae HALL).2.2.1,(ae HALL).2.2.2.1,(ae HALL).2.2.2.2.1]at hh;exact hh
     have hnz:(nmB s).size<65536:=by rw[xF (by rw[(ae HALL).2.2.2.2.2];omega)];exact kQ _ _
     have HE:Hid (∀b,pL s.data.toList=b->HgP s (.returned (.tuple #[.agg #[.int .i64 (HW:Nat),.int .i64 (ST:Nat),.int .i64 (CR:Nat),.int .i64 (PK:Nat),.int .i64 (LN:Nat),.string (nmB s),.string (bdB s)],.bool b]))):=fun b hb=>by
      have hd:hdB s=b:=by
       unfold hdB;rw[hb,(ae HALL).2.2.2.2.2,(ae HALL).2.2.2.1,decide_eq_true (ae H30),decide_eq_true hto];simp
      cases b
      · exact Gr hd _ _ _ _ _ _ _ ⟨(ae HLT).1,(ae HLT).2.1,(ae HLT).2.2.1,(ae HLT).2.2.2.1,(ae HLT).2.2.2.2.1,by unfold nmB;rw[ByteArray.size_extract];omega,by unfold bdB;rw[ByteArray.size_extract];omega⟩
      · refine .inl ⟨hd,?_⟩;rw[(ae HALL).1,(ae HALL).2.1,(ae HALL).2.2.1,(ae HALL).2.2.2.1,(ae HALL).2.2.2.2.1]
     generalize hNM:nmB s=NM at *
     generalize hBD:bdB s=BD at *
     obtain⟨l1,l2,l3,l4,l5,l6⟩:=ae HLT;have CH:=af (fun W=>wJ HW ST CR PK LN NM BD W l1 l2 l3 l4 l5 hnz);have CP:Hid (∀W,Calls Tryz.prog 64 #[.string s,.string (bJ HW ST CR PK LN NM)] W fun e w'=>e = .returned (.bool (pL s.data.toList))/\w'=W):=fun W=>by
      have h:=Tryz.strings_HasPrefix s (bJ HW ST CR PK LN NM) W;have e:Lib.hasPrefix s.data.toList (bJ HW ST CR PK LN NM).data.toList=pL s.data.toList:=ae HPr;rw[e]at h;exact h
     generalize pL s.data.toList=fb at *
     generalize bJ HW ST CR PK LN NM=HB at *
     clear hNM hBD l1 l2 l3 l4 l5 l6 hto HPr hnz;have T3:=af ((ae T2).set hA 5 (.string NM));have R3:=af ((ae R2).set 5 (.string NM));clear T2 R2 G2 W4 W13;go_wp2_with fail;clear c0 c13 r3 r5 q5;generalize wc.setCell ⟨A,5,none⟩ (.string NM)=X3 at *
     refine wp_region_held_drew (S:=fun W=>Blk W A [.int .i64 (HW:Nat),.int .i64 (ST:Nat),.int .i64 (CR:Nat),.int .i64 (PK:Nat),.int .i64 (LN:Nat),.string NM]) hmix (ae R3).drew (fun hS=>?_);refine ag 0 (.agg #[.int .i64 (HW:Nat),.int .i64 (ST:Nat),.int .i64 (CR:Nat),.int .i64 (PK:Nat),.int .i64 (LN:Nat),.string NM]) rfl (by kernel_rfl) (fun _ _ _ h=>h) rfl (fun W hSw=>by have s0:=Blk.cell hSw 0 _ rfl;have s1:=Blk.cell hSw 1 _ rfl;have s2:=Blk.cell hSw 2 _ rfl;have s3:=Blk.cell hSw 3 _ rfl;have s4:=Blk.cell hSw 4 _ rfl;have s5:=Blk.cell hSw 5 _ rfl;go_simp) hS ?_;refine ag 1 (.string s) rfl (by kernel_rfl) (fun _ _ _ h=>h) rfl (fun W hSw=>by go_simp) hS ?_;refine ag 2 (.int .i64 (30+(NL:Int))) rfl (by kernel_rfl) (fun _ _ _ h=>h) rfl (fun W hSw=>by go_simp) hS ?_;refine ag 3 (.int .i64 (30+(NL:Int))) rfl (by kernel_rfl) (fun _ _ _ h=>h) rfl (fun W hSw=>by go_simp) hS ?_;refine ag 4 (.pointer (some ⟨A,3,none⟩)) rfl (by kernel_rfl) (fun _ _ _ h=>h) rfl (fun W hSw=>by go_simp) hS ?_;refine ag 5 (.int .i64 (PK:Nat)) rfl (by kernel_rfl) (fun _ _ _ h=>h) rfl (fun W hSw=>by have s3:=Blk.cell hSw 3 _ rfl;go_simp) hS ?_;refine ag 6 (.int .i64 (30+(NL:Int)+(PK:Int))) rfl (by kernel_rfl) (fun _ _ _ h=>h) rfl (fun W hSw=>by go_simp) hS ?_;refine ag 7 (.string BD) rfl (by kernel_rfl) (fun _ _ _ h=>h) rfl (fun W hSw=>by go_simp) hS ?_;refine ag 8 (.agg #[.int .i64 (HW:Nat),.int .i64 (ST:Nat),.int .i64 (CR:Nat),.int .i64 (PK:Nat),.int .i64 (LN:Nat),.string NM,.string BD]) rfl (by kernel_rfl) (fun _ _ _ h=>h) rfl (fun W hSw=>by go_simp) hS ?_;have T4:=af (ae T3).drew;have R4:=af (ae R3).drew;clear T3 R3;generalize X3.drew=W4 at *
     refine ah 9 (by kernel_rfl) rfl fun K hK=>?_;go_simp;have Bd:Below W4.heap.size W4 (W4.alloc (.cells #[.int .i64 0,.int .i64 0,.int .i64 0,.int .i64 0,.int .i64 0,.string ⟨#[]⟩,.string ⟨#[]⟩] 60)):=(Below.refl _ _).alloc (Nat.le_refl _) _;have T5:=af ((ae T4).later Bd);have R5:=af ((ae R4).later Bd (ae R4).1);have L5:Hid (Blk (W4.alloc (.cells #[.int .i64 0,.int .i64 0,.int .i64 0,.int .i64 0,.int .i64 0,.string ⟨#[]⟩,.string ⟨#[]⟩] 60)) W4.heap.size [.int .i64 0,.int .i64 0,.int .i64 0,.int .i64 0,.int .i64 0,.string ⟨#[]⟩,.string ⟨#[]⟩]):=aS _ _ _;have hL:w.heap.size<W4.heap.size:=(ae T4).2.1;have hLA:A<W4.heap.size:=(ae R4).1;refine Shut.out hK _ _ (ae R5) (fun hS=>?_);clear hK K;obtain⟨L,hLe⟩:∃x,W4.heap.size=x:=⟨_,rfl⟩;obtain⟨W5,hW5⟩:∃x,W4.alloc (.cells #[.int .i64 0,.int .i64 0,.int .i64 0,.int .i64 0,.int .i64 0,.string ⟨#[]⟩,.string ⟨#[]⟩] 60)=x:=⟨_,rfl⟩;rw[hW5]at T5 R5 hS;rw[hLe,hW5]at L5;rw[hLe]at hL hLA;rw[hLe,hW5];clear Bd hLe hW5 T4 R4;refine ah 10 (by kernel_rfl) rfl fun K hK=>?_;have aA:=(ae L5).cells (n:=7) rfl;have fA:=(ae L5).frees (n:=7) rfl;go_simp;have T6:=af ((ae T5).set7 hL (.int .i64 (HW:Nat)) (.int .i64 (ST:Nat)) (.int .i64 (CR:Nat)) (.int .i64 (PK:Nat)) (.int .i64 (LN:Nat)) (.string NM) (.string BD));have L6:=af ((ae L5).set7 (.int .i64 (HW:Nat)) (.int .i64 (ST:Nat)) (.int .i64 (CR:Nat)) (.int .i64 (PK:Nat)) (.int .i64 (LN:Nat)) (.string NM) (.string BD));have R6:=af (H5 (ae R5) (Nat.ne_of_lt hLA) (.int .i64 (HW:Nat)) (.int .i64 (ST:Nat)) (.int .i64 (CR:Nat)) (.int .i64 (PK:Nat)) (.int .i64 (LN:Nat)) (.string NM) (.string BD));clear aA fA T5 R5 L5;refine Shut.out hK _ _ (ae R6) (fun hS=>?_);clear hK K;refine wpAnyH_done (by kernel_rfl) ?_ _;clear hS;obtain⟨X6,hX6⟩:∃x,(((((((W5.setCell ⟨L,0,none⟩ (.int .i64 (HW:Nat))).setCell ⟨L,1,none⟩ (.int .i64 (ST:Nat))).setCell ⟨L,2,none⟩ (.int .i64 (CR:Nat))).setCell ⟨L,3,none⟩ (.int .i64 (PK:Nat))).setCell ⟨L,4,none⟩ (.int .i64 (LN:Nat))).setCell ⟨L,5,none⟩ (.string NM)).setCell ⟨L,6,none⟩ (.string BD))=x:=⟨_,rfl⟩;rw[hX6]at T6 L6;rw[hX6];clear hX6 R6;go_wp2_with fail;refine wp_region_held_drew (S:=fun W=>Blk W L [.int .i64 (HW:Nat),.int .i64 (ST:Nat),.int .i64 (CR:Nat),.int .i64 (PK:Nat),.int .i64 (LN:Nat),.string NM,.string BD]) hmix (ae L6).drew (fun hS=>?_);refine ag 0 (.agg #[.int .i64 (HW:Nat),.int .i64 (ST:Nat),.int .i64 (CR:Nat),.int .i64 (PK:Nat),.int .i64 (LN:Nat),.string NM,.string BD]) rfl (by kernel_rfl) (fun _ _ _ h=>h) rfl (fun W hSw=>by have s0:=Blk.cell hSw 0 _ rfl;have s1:=Blk.cell hSw 1 _ rfl;have s2:=Blk.cell hSw 2 _ rfl;have s3:=Blk.cell hSw 3 _ rfl;have s4:=Blk.cell hSw 4 _ rfl;have s5:=Blk.cell hSw 5 _ rfl;have s6:=Blk.cell hSw 6 _ rfl;go_simp) hS ?_;refine ag 1 (.string s) rfl (by kernel_rfl) (fun _ _ _ h=>h) rfl (fun W hSw=>by go_simp) hS ?_;refine ag 2 (.agg #[.int .i64 (HW:Nat),.int .i64 (ST:Nat),.int .i64 (CR:Nat),.int .i64 (PK:Nat),.int .i64 (LN:Nat),.string NM,.string BD]) rfl (by kernel_rfl) (fun _ _ _ h=>h) rfl (fun W hSw=>by have s0:=Blk.cell hSw 0 _ rfl;have s1:=Blk.cell hSw 1 _ rfl;have s2:=Blk.cell hSw 2 _ rfl;have s3:=Blk.cell hSw 3 _ rfl;have s4:=Blk.cell hSw 4 _ rfl;have s5:=Blk.cell hSw 5 _ rfl;have s6:=Blk.cell hSw 6 _ rfl;go_simp) hS ?_;have T7:=af (ae T6).drew;have L7:=af (ae L6).drew;clear T6 L6;generalize X6.drew=W7 at *
     refine ah 3 (by kernel_rfl) rfl fun K hK=>?_;go_simp;go_at_call 74;refine(ae CH W7).mono ?_;rintro e W8 ⟨rfl,Bd⟩;have T8:=af ((ae T7).later Bd);have L8:=af ((ae L7).later Bd (ae L7).1);refine Shut.out hK _ _ (ae L8) (fun hS=>?_);clear hK K;clear Bd T7 L7;refine ah 4 (by kernel_rfl) rfl fun K hK=>?_;go_simp;go_at_call 64;refine(ae CP W8).mono ?_;rintro e W9 ⟨rfl,rfl⟩;refine Shut.out hK _ _ (ae L8) (fun hS=>?_);clear hK K;refine ah 5 (by kernel_rfl) rfl fun K hK=>?_;have bA:=(ae T8).2.cells (n:=7) rfl;have gA:=(ae T8).2.frees (n:=7) rfl;go_simp;have TZ:=af (FC (ae T8).1 (Nat.le_refl _) (.int .i64 (HW:Nat)) (.int .i64 (ST:Nat)) (.int .i64 (CR:Nat)) (.int .i64 (PK:Nat)) (.int .i64 (LN:Nat)) (.string NM) (.string BD));have ZZ:=af ((ae T8).2.set7 (.int .i64 (HW:Nat)) (.int .i64 (ST:Nat)) (.int .i64 (CR:Nat)) (.int .i64 (PK:Nat)) (.int .i64 (LN:Nat)) (.string NM) (.string BD));have LZ:=af (H5 (ae L8) (Nat.ne_of_gt hL) (.int .i64 (HW:Nat)) (.int .i64 (ST:Nat)) (.int .i64 (CR:Nat)) (.int .i64 (PK:Nat)) (.int .i64 (LN:Nat)) (.string NM) (.string BD));clear bA gA;refine Shut.out hK _ _ (ae LZ) (fun hS=>?_);clear hK K;refine ah 6 (by kernel_rfl) rfl fun K hK=>?_;go_simp;refine Shut.out hK _ _ (ae LZ) (fun hS=>?_);clear hK K;refine wpAnyH_done (by kernel_rfl) ?_ _;go_wp2;have zA:=(ae ZZ).cells (n:=7) rfl;refine bodyPost_ret (v:=.tuple #[.agg #[.int .i64 (HW:Nat),.int .i64 (ST:Nat),.int .i64 (CR:Nat),.int .i64 (PK:Nat),.int .i64 (LN:Nat),.string NM,.string BD],.bool fb]) (by simp[results,Tryz.results65,go_sem,zA]) rfl ⟨ae HE _ rfl,ae TZ⟩
    ·
     have htoI:(s.size:Int)<30+(NL:Int)+(PK:Int):=by omega
     have HE:Hid (hdB s=false):=by
      show _=_;unfold hdB;rw[(ae HALL).2.2.2.2.2,(ae HALL).2.2.2.1,decide_eq_false hto];simp
     clear hto;have bA:=(ae T2).2.cells (n:=7) rfl;have gA:=(ae T2).2.frees (n:=7) rfl;have TZ:=af (FC (ae T2).1 (Nat.le_refl _) (.int .i64 0) (.int .i64 0) (.int .i64 0) (.int .i64 0) (.int .i64 0) (.string ⟨#[]⟩) (.string ⟨#[]⟩));have ZZ:=af ((ae T2).2.set7 (.int .i64 0) (.int .i64 0) (.int .i64 0) (.int .i64 0) (.int .i64 0) (.string ⟨#[]⟩) (.string ⟨#[]⟩));go_wp2;have zA:=(ae ZZ).cells (n:=7) rfl;refine bodyPost_ret (v:=.tuple #[.agg #[.int .i64 0,.int .i64 0,.int .i64 0,.int .i64 0,.int .i64 0,.string ⟨#[]⟩,.string ⟨#[]⟩],.bool false]) (by simp[results,Tryz.results65,go_sem,zA]) rfl ⟨Gr (ae HE) 0 0 0 0 0 ⟨#[]⟩ ⟨#[]⟩ wK,ae TZ⟩
 ·
  have h30I:(s.size:Int)<30:=by omega
  have HE:Hid (hdB s=false):=by
   show _=_;unfold hdB;rw[decide_eq_false h30];simp
  clear h30;go_enter Tryz.func65,Tryz.ntmps65;go_wp2;refine bodyPost_ret (v:=.tuple #[.agg #[.int .i64 0,.int .i64 0,.int .i64 0,.int .i64 0,.int .i64 0,.string ⟨#[]⟩,.string ⟨#[]⟩],.bool false]) (by simp[results,Tryz.results65,go_sem]) rfl ⟨Gr (ae HE) 0 0 0 0 0 ⟨#[]⟩ ⟨#[]⟩ wK,(ae T0).1⟩
def EnS(w:World)(vs:List Value)(W:World):Prop:=Below w.heap.size w W/\Blk W w.heap.size vs/\Blk W (w.heap.size+1) [.string ⟨#[]⟩,.int .i64 0,.int .i64 0,.int .i64 0,.int .i64 0,.int .i64 0,.int .i64 0,.string ⟨#[]⟩]
theorem EnS.later{w W W':World}{vs:List Value}(k:EnS w vs W)(hb:Below W.heap.size W W'):EnS w vs W':=⟨aj k.1 hb,k.2.1.later hb k.2.1.1,k.2.2.later hb k.2.2.1⟩
theorem EnS.drew{w W:World}{vs:List Value}(k:EnS w vs W):EnS w vs W.drew:=⟨k.1.drew,k.2.1.drew,k.2.2.drew⟩
theorem EnS.set{w W:World}{vs:List Value}(k:EnS w vs W){A:Nat}(hA:w.heap.size+1<A)(o:Nat)(v:Value):EnS w vs (W.setCell ⟨A,o,none⟩ v):=⟨ai k.1 (by omega) _,k.2.1.set_other v (by omega),k.2.2.set_other v (by omega)⟩
theorem EnS.set8{w W:World}{vs:List Value}(k:EnS w vs W){A:Nat}(hA:w.heap.size+1<A)(a0 a1 a2 a3 a4 a5 a6 a7:Value):EnS w vs ((((((((W.setCell ⟨A,0,none⟩ a0).setCell ⟨A,1,none⟩ a1).setCell ⟨A,2,none⟩ a2).setCell ⟨A,3,none⟩ a3).setCell ⟨A,4,none⟩ a4).setCell ⟨A,5,none⟩ a5).setCell ⟨A,6,none⟩ a6).setCell ⟨A,7,none⟩ a7):=((((((((k.set hA 0 a0).set hA 1 a1).set hA 2 a2).set hA 3 a3).set hA 4 a4).set hA 5 a5).set hA 6 a6).set hA 7 a7)
def enB(how st cr lg:Nat)(nm b:ByteArray):Bool:=txO how b&&(gOk (st:Nat)&&(j8 nm (zz (gOk (st:Nat)) (gY (st:Nat))) (zz (gOk (st:Nat)) (gM (st:Nat))) (zz (gOk (st:Nat)) (gD (st:Nat))) (zz (gOk (st:Nat)) (gH (st:Nat))) (zz (gOk (st:Nat)) (gI (st:Nat))) (zz (gOk (st:Nat)) (gS (st:Nat))) (uxT how b)&&(decide ((uxT how b).size=lg)&&decide (aQ 0 (uxT how b).data.toList=cr))))
def enE(st:Nat)(nm T:ByteArray):Value:=.agg #[.string nm,.int .i64 (zz (gOk (st:Nat)) (gY (st:Nat))),.int .i64 (zz (gOk (st:Nat)) (gM (st:Nat))),.int .i64 (zz (gOk (st:Nat)) (gD (st:Nat))),.int .i64 (zz (gOk (st:Nat)) (gH (st:Nat))),.int .i64 (zz (gOk (st:Nat)) (gI (st:Nat))),.int .i64 (zz (gOk (st:Nat)) (gS (st:Nat))),.string T]
theorem IK{P:Prop}(a b c:Bool)(x y u v:Nat)
  (h1:(a&&(b&&(c&&(decide (x=y)&&decide (u=v)))))=false->a=false->P)
  (h2:(a&&(b&&(c&&(decide (x=y)&&decide (u=v)))))=false->a=true->b=false->P)
  (h3:(a&&(b&&(c&&(decide (x=y)&&decide (u=v)))))=false->a=true->b=true->c=false->P)
  (h4:(a&&(b&&(c&&(decide (x=y)&&decide (u=v)))))=false->a=true->b=true->c=true->((x:Int) == (y:Int))=false->((x:Int) != (y:Int))=true->P)
  (h5:(a&&(b&&(c&&(decide (x=y)&&decide (u=v)))))=false->a=true->b=true->c=true->((x:Int) == (y:Int))=true->((x:Int) != (y:Int))=false->((u:Int) == (v:Int))=false->((u:Int) != (v:Int))=true->P)
  (h6:(a&&(b&&(c&&(decide (x=y)&&decide (u=v)))))=true->a=true->b=true->c=true->((x:Int) == (y:Int))=true->((x:Int) != (y:Int))=false->((u:Int) == (v:Int))=true->((u:Int) != (v:Int))=false->P):P:=by
 have e:∀m n:Nat,((m:Int)=(n:Int))<->m=n:=fun m n=>by omega
 cases a
 · exact h1 (by simp) rfl
 cases b
 · exact h2 (by simp) rfl rfl
 cases c
 · exact h3 (by simp) rfl rfl rfl
 by_cases k1:x=y
 ·
  by_cases k2:u=v
  · exact h6 (by simp[k1,k2]) rfl rfl rfl (by simp[k1]) (by simp[k1]) (by simp[k2]) (by simp[k2])
  · exact h5 (by simp[k2]) rfl rfl rfl (by simp[k1]) (by simp[k1]) (by simp[e,k2]) (by simp[e,k2])
 · exact h4 (by simp[k1]) rfl rfl rfl (by simp[e,k1]) (by simp[e,k1])
theorem pf(how st cr pk lg:Nat)(nm b:ByteArray)(m:Int)(w:World)(hb:b.size<=1048576)(hh:how<65536)(h1:st<4294967296)(h2:cr<4294967296)(h3:lg<4294967296)(hn:nm.size<=1048576)(hm:w.cell? ⟨2,0,none⟩=some (.int .i64 m))(hO:dk w) :
  Calls Tryz.prog 66 #[.agg #[.int .i64 (how:Nat),.int .i64 (st:Nat),.int .i64 (cr:Nat),.int .i64 (pk:Nat),.int .i64 (lg:Nat),.string nm,.string b]] w fun e w'=>e=Ending.returned (if enB how st cr lg nm b=true then .tuple #[enE st nm (uxT how b),.bool true]else .tuple #[noE,.bool false])/\Below w.heap.size w w':=by
 have hmix:Tryz.prog.follows .mixedOrders=true:=by kernel_rfl
 have hux:=yK (how:=how) (b:=b) hb;have HM:=af hm;have hmb:=af (World.block_lt_of_cell? _ _ hm);have CM:=af (fun W (hb:Below w.heap.size w W)=>(hb.cell (p:=⟨2,0,none⟩) (ae hmb)).trans (ae HM));have HO:=af (fun W (hb:Below w.heap.size w W)=>hO.later hb);have CU:=af (fun W (h:dk W)=>DJ how (st:Int) (cr:Int) (pk:Int) (lg:Int) nm b W hb hh h);have CC:=af (fun W=>jy nm W (by omega));have CCr:=af (fun W=>o8 (uxT how b) W (by unfold maxLen;omega));have CS:Hid (∀W,Calls Tryz.prog 110 #[.int .i64 (st:Nat)] W fun e w'=>e = .returned (.tuple #[.agg #[.int .i64 (zz (gOk (st:Nat)) (gY (st:Nat))),.int .i64 (zz (gOk (st:Nat)) (gM (st:Nat))),.int .i64 (zz (gOk (st:Nat)) (gD (st:Nat))),.int .i64 (zz (gOk (st:Nat)) (gH (st:Nat))),.int .i64 (zz (gOk (st:Nat)) (gI (st:Nat))),.int .i64 (zz (gOk (st:Nat)) (gS (st:Nat)))],.bool (gOk (st:Nat))])/\Below W.heap.size W w'):=fun W=>ou _ W (WalkArith.wf_i64 (by omega));have CE:=af (fun W (hb:Below w.heap.size w W)=>jK nm (zz (gOk (st:Nat)) (gY (st:Nat))) (zz (gOk (st:Nat)) (gM (st:Nat))) (zz (gOk (st:Nat)) (gD (st:Nat))) (zz (gOk (st:Nat)) (gH (st:Nat))) (zz (gOk (st:Nat)) (gI (st:Nat))) (zz (gOk (st:Nat)) (gS (st:Nat))) (uxT how b) m W (by omega) (by omega) (ae CM _ hb));obtain⟨RES,hRES⟩:∃x,Ending.returned (if enB how st cr lg nm b=true then .tuple #[enE st nm (uxT how b),.bool true]else .tuple #[noE,.bool false])=x:=⟨_,rfl⟩;rw[hRES];have HRES:=af hRES;clear hRES hm hO;unfold enB enE at HRES;generalize txO how b=OK at *
 generalize uxT how b=UT at *
 generalize zz (gOk (st:Nat)) (gY (st:Nat))=yy at *
 generalize zz (gOk (st:Nat)) (gM (st:Nat))=mo at *
 generalize zz (gOk (st:Nat)) (gD (st:Nat))=dd at *
 generalize zz (gOk (st:Nat)) (gH (st:Nat))=hh' at *
 generalize zz (gOk (st:Nat)) (gI (st:Nat))=mi at *
 generalize zz (gOk (st:Nat)) (gS (st:Nat))=ss at *
 generalize gOk (st:Nat)=GO at *
 generalize j8 nm yy mo dd hh' mi ss UT=EB at *
 generalize aQ 0 UT.data.toList=cu at *
 have T0:Hid (EnS w [.int .i64 (how:Nat),.int .i64 (st:Nat),.int .i64 (cr:Nat),.int .i64 (pk:Nat),.int .i64 (lg:Nat),.string nm,.string b] ((w.alloc (.cells #[.int .i64 (how:Nat),.int .i64 (st:Nat),.int .i64 (cr:Nat),.int .i64 (pk:Nat),.int .i64 (lg:Nat),.string nm,.string b] 60)).alloc (.cells #[.string ⟨#[]⟩,.int .i64 0,.int .i64 0,.int .i64 0,.int .i64 0,.int .i64 0,.int .i64 0,.string ⟨#[]⟩] 51))):=by
  have e1:=aS w #[.int .i64 (how:Nat),.int .i64 (st:Nat),.int .i64 (cr:Nat),.int .i64 (pk:Nat),.int .i64 (lg:Nat),.string nm,.string b] 60;have e2:=aS (w.alloc (.cells #[.int .i64 (how:Nat),.int .i64 (st:Nat),.int .i64 (cr:Nat),.int .i64 (pk:Nat),.int .i64 (lg:Nat),.string nm,.string b] 60)) #[.string ⟨#[]⟩,.int .i64 0,.int .i64 0,.int .i64 0,.int .i64 0,.int .i64 0,.int .i64 0,.string ⟨#[]⟩] 51;have e3:(w.alloc (.cells #[.int .i64 (how:Nat),.int .i64 (st:Nat),.int .i64 (cr:Nat),.int .i64 (pk:Nat),.int .i64 (lg:Nat),.string nm,.string b] 60)).heap.size=w.heap.size+1:=by simp
  rw[e3]at e2;exact⟨((Below.refl _ _).alloc (Nat.le_refl _) _).alloc (by rw[e3];exact Nat.le_succ _) _,e1.later ((Below.refl _ _).alloc (Nat.le_refl _) _) (by simp),e2⟩
 clear hb hh hux h1 h2 h3 hn;go_enter Tryz.func66,Tryz.ntmps66;go_wp2_with fail;refine(ae CU _ (ae HO _ (ae T0).1)).mono ?_;rintro e x1 ⟨rfl,hb1⟩;have T1:=af ((ae T0).later hb1);clear hb1 T0;have c1:=(ae T1).2.1.cell 1 _ rfl;go_wp2_with fail;refine(ae CS _).mono ?_;rintro e x2 ⟨rfl,hb2⟩;have T2:=af ((ae T1).later hb2);clear hb2 T1 c1;have T3:=af ((ae T2).later ((Below.refl x2.heap.size x2).alloc (Nat.le_refl _) (.cells #[.int .i64 yy,.int .i64 mo,.int .i64 dd,.int .i64 hh',.int .i64 mi,.int .i64 ss] 32)));have S3:=af (aS x2 #[.int .i64 yy,.int .i64 mo,.int .i64 dd,.int .i64 hh',.int .i64 mi,.int .i64 ss] 32);clear T2;go_wp2_with fail;obtain⟨SB,hSB⟩:∃x,x2.heap.size=x:=⟨_,rfl⟩;obtain⟨X3,hX3⟩:∃x,x2.alloc (.cells #[.int .i64 yy,.int .i64 mo,.int .i64 dd,.int .i64 hh',.int .i64 mi,.int .i64 ss] 32)=x:=⟨_,rfl⟩;rw[hX3]at T3;rw[hSB,hX3]at S3;rw[hSB,hX3];clear hSB hX3;go_cut[8] (fun v wx=>∃A,v = .pointer (some ⟨A,0,none⟩)/\w.heap.size+1<A/\EnS w [.int .i64 (how:Nat),.int .i64 (st:Nat),.int .i64 (cr:Nat),.int .i64 (pk:Nat),.int .i64 (lg:Nat),.string nm,.string b] wx/\Blk wx A [.string nm,.int .i64 yy,.int .i64 mo,.int .i64 dd,.int .i64 hh',.int .i64 mi,.int .i64 ss,.string UT])
 case first=>
  refine wp_region_held_drew (S:=fun W=>EnS w [.int .i64 (how:Nat),.int .i64 (st:Nat),.int .i64 (cr:Nat),.int .i64 (pk:Nat),.int .i64 (lg:Nat),.string nm,.string b] W/\Blk W SB [.int .i64 yy,.int .i64 mo,.int .i64 dd,.int .i64 hh',.int .i64 mi,.int .i64 ss]) hmix ⟨(ae T3).drew,(ae S3).drew⟩ (fun hS=>?_);refine ag 0 (.pointer (some ⟨w.heap.size,0,none⟩)) rfl (by kernel_rfl) (fun _ _ _ h=>h) rfl (fun W hSw=>by go_simp) hS ?_;refine ag 1 (.pointer (some ⟨w.heap.size,5,none⟩)) rfl (by kernel_rfl) (fun _ _ _ h=>h) rfl (fun W hSw=>by go_simp) hS ?_;refine ag 2 (.string nm) rfl (by kernel_rfl) (fun _ _ _ h=>h) rfl (fun W hSw=>by have s5:=hSw.1.2.1.cell 5 _ rfl;go_simp) hS ?_;refine ag 4 (.agg #[.int .i64 yy,.int .i64 mo,.int .i64 dd,.int .i64 hh',.int .i64 mi,.int .i64 ss]) rfl (by kernel_rfl) (fun _ _ _ h=>h) rfl (fun W hSw=>by have s0:=hSw.2.cell 0 _ rfl;have s1:=hSw.2.cell 1 _ rfl;have s2:=hSw.2.cell 2 _ rfl;have s3:=hSw.2.cell 3 _ rfl;have s4:=hSw.2.cell 4 _ rfl;have s5:=hSw.2.cell 5 _ rfl;go_simp) hS ?_;refine ag 5 (.string UT) rfl (by kernel_rfl) (fun _ _ _ h=>h) rfl (fun W hSw=>by go_simp) hS ?_;have T4:=af (ae T3).drew;have S4:=af (ae S3).drew;clear T3 S3;generalize X3.drew=W4 at *
  refine wpAnyH_ready (rs:=[3,7]) (by kernel_rfl) (by simp) ?_;refine AllReadyH.cons rfl (fun K hK=>?_) (AllReadyH.cons rfl (fun K hK=>?_) (AllReadyH.nil))
  ·
   go_simp;go_at_call 43;refine(ae CC W4).mono ?_;rintro e W5 ⟨rfl,Bd⟩;have T5:=af ((ae T4).later Bd);have S5:=af ((ae S4).later Bd (ae S4).1);refine Shut.out hK _ _ ⟨ae T5,ae S5⟩ (fun hS=>?_);clear hK K;clear Bd T4 S4;refine ag 6 (.agg #[.string nm,.int .i64 yy,.int .i64 mo,.int .i64 dd,.int .i64 hh',.int .i64 mi,.int .i64 ss,.string UT]) rfl (by kernel_rfl) (fun _ _ _ h=>h) rfl (fun W hSw=>by go_simp) hS ?_;refine ah 7 (by kernel_rfl) rfl fun K hK=>?_;go_simp;have Bd:Below W5.heap.size W5 (W5.alloc (.cells #[.string ⟨#[]⟩,.int .i64 0,.int .i64 0,.int .i64 0,.int .i64 0,.int .i64 0,.int .i64 0,.string ⟨#[]⟩] 51)):=(Below.refl _ _).alloc (Nat.le_refl _) _;have T6:=af ((ae T5).later Bd);have S6:=af ((ae S5).later Bd (ae S5).1);have R6:Hid (Blk (W5.alloc (.cells #[.string ⟨#[]⟩,.int .i64 0,.int .i64 0,.int .i64 0,.int .i64 0,.int .i64 0,.int .i64 0,.string ⟨#[]⟩] 51)) W5.heap.size [.string ⟨#[]⟩,.int .i64 0,.int .i64 0,.int .i64 0,.int .i64 0,.int .i64 0,.int .i64 0,.string ⟨#[]⟩]):=aS _ _ _;have hA:w.heap.size+1<W5.heap.size:=(ae T5).2.2.1;have hSA:SB≠W5.heap.size:=Nat.ne_of_lt (ae S5).1;refine Shut.out hK _ _ ⟨ae T6,ae S6⟩ (fun hS=>?_);clear hK K;obtain⟨A,hAe⟩:∃x,W5.heap.size=x:=⟨_,rfl⟩;obtain⟨W6,hW6⟩:∃x,W5.alloc (.cells #[.string ⟨#[]⟩,.int .i64 0,.int .i64 0,.int .i64 0,.int .i64 0,.int .i64 0,.int .i64 0,.string ⟨#[]⟩] 51)=x:=⟨_,rfl⟩;rw[hW6]at T6 S6 hS;rw[hAe,hW6]at R6;rw[hAe]at hA hSA;rw[hAe,hW6];clear Bd hAe hW6 T5 S5;refine ah 8 (by kernel_rfl) rfl fun K hK=>?_;have aA:=(ae R6).cells (n:=8) rfl;have fA:=(ae R6).frees (n:=8) rfl;go_simp;have TX:=af ((ae T6).set8 hA (.string nm) (.int .i64 yy) (.int .i64 mo) (.int .i64 dd) (.int .i64 hh') (.int .i64 mi) (.int .i64 ss) (.string UT));have RX:=af ((ae R6).set8 (.string nm) (.int .i64 yy) (.int .i64 mo) (.int .i64 dd) (.int .i64 hh') (.int .i64 mi) (.int .i64 ss) (.string UT));have SX:=af (H7 (ae S6) hSA (.string nm) (.int .i64 yy) (.int .i64 mo) (.int .i64 dd) (.int .i64 hh') (.int .i64 mi) (.int .i64 ss) (.string UT));clear aA fA;refine Shut.out hK _ _ ⟨ae TX,ae SX⟩ (fun hS=>?_);clear hK K;refine wpAnyH_done (by kernel_rfl) ?_ _;go_wp2_with fail
   go_meet
   case rel=>exact⟨A,rfl,hA,ae TX,ae RX⟩
  ·
   go_simp;have Bd:Below W4.heap.size W4 (W4.alloc (.cells #[.string ⟨#[]⟩,.int .i64 0,.int .i64 0,.int .i64 0,.int .i64 0,.int .i64 0,.int .i64 0,.string ⟨#[]⟩] 51)):=(Below.refl _ _).alloc (Nat.le_refl _) _;have T5:=af ((ae T4).later Bd);have S5:=af ((ae S4).later Bd (ae S4).1);have R5:Hid (Blk (W4.alloc (.cells #[.string ⟨#[]⟩,.int .i64 0,.int .i64 0,.int .i64 0,.int .i64 0,.int .i64 0,.int .i64 0,.string ⟨#[]⟩] 51)) W4.heap.size [.string ⟨#[]⟩,.int .i64 0,.int .i64 0,.int .i64 0,.int .i64 0,.int .i64 0,.int .i64 0,.string ⟨#[]⟩]):=aS _ _ _;have hA:w.heap.size+1<W4.heap.size:=(ae T4).2.2.1;have hSA:SB≠W4.heap.size:=Nat.ne_of_lt (ae S4).1;refine Shut.out hK _ _ ⟨ae T5,ae S5⟩ (fun hS=>?_);clear hK K;obtain⟨A,hAe⟩:∃x,W4.heap.size=x:=⟨_,rfl⟩;obtain⟨W5,hW5⟩:∃x,W4.alloc (.cells #[.string ⟨#[]⟩,.int .i64 0,.int .i64 0,.int .i64 0,.int .i64 0,.int .i64 0,.int .i64 0,.string ⟨#[]⟩] 51)=x:=⟨_,rfl⟩;rw[hW5]at T5 S5 hS;rw[hAe,hW5]at R5;rw[hAe]at hA hSA;rw[hAe,hW5];clear Bd hAe hW5 T4 S4;refine ah 3 (by kernel_rfl) rfl fun K hK=>?_;go_simp;go_at_call 43;refine(ae CC W5).mono ?_;rintro e W6 ⟨rfl,Bd⟩;have T6:=af ((ae T5).later Bd);have S6:=af ((ae S5).later Bd (ae S5).1);have R6:=af ((ae R5).later Bd (ae R5).1);refine Shut.out hK _ _ ⟨ae T6,ae S6⟩ (fun hS=>?_);clear hK K;clear Bd T5 S5 R5;refine ag 6 (.agg #[.string nm,.int .i64 yy,.int .i64 mo,.int .i64 dd,.int .i64 hh',.int .i64 mi,.int .i64 ss,.string UT]) rfl (by kernel_rfl) (fun _ _ _ h=>h) rfl (fun W hSw=>by go_simp) hS ?_;refine ah 8 (by kernel_rfl) rfl fun K hK=>?_;have aA:=(ae R6).cells (n:=8) rfl;have fA:=(ae R6).frees (n:=8) rfl;go_simp;have TX:=af ((ae T6).set8 hA (.string nm) (.int .i64 yy) (.int .i64 mo) (.int .i64 dd) (.int .i64 hh') (.int .i64 mi) (.int .i64 ss) (.string UT));have RX:=af ((ae R6).set8 (.string nm) (.int .i64 yy) (.int .i64 mo) (.int .i64 dd) (.int .i64 hh') (.int .i64 mi) (.int .i64 ss) (.string UT));have SX:=af (H7 (ae S6) hSA (.string nm) (.int .i64 yy) (.int .i64 mo) (.int .i64 dd) (.int .i64 hh') (.int .i64 mi) (.int .i64 ss) (.string UT));clear aA fA;refine Shut.out hK _ _ ⟨ae TX,ae SX⟩ (fun hS=>?_);clear hK K;refine wpAnyH_done (by kernel_rfl) ?_ _;go_wp2_with fail
   go_meet
   case rel=>exact⟨A,rfl,hA,ae TX,ae RX⟩
 case rest=>
  obtain⟨A,rfl,hA,TB',RB'⟩:=hcut;have TB:=af TB';have RB:=af RB';clear TB' RB' T3 S3;go_wp2_with fail;refine IK OK GO EB UT.size lg cu cr ?_ ?_ ?_ ?_ ?_ ?_;rotate_left 5
  ·
   rintro hz rfl rfl rfl k1b k1c k2b k2c;have HV:Hid (Ending.returned (.tuple #[.agg #[.string nm,.int .i64 yy,.int .i64 mo,.int .i64 dd,.int .i64 hh',.int .i64 mi,.int .i64 ss,.string UT],.bool true])=RES):=by show _=_;rw[←ae HRES,if_pos hz]
   clear hz;have k4:=cell_regrown ((ae TB).2.1.cell 4 _ rfl);have k2:=cell_regrown ((ae TB).2.1.cell 2 _ rfl);have m0:=cell_regrown ((ae RB).cell 0 _ rfl);have m1:=cell_regrown ((ae RB).cell 1 _ rfl);have m2:=cell_regrown ((ae RB).cell 2 _ rfl);have m3:=cell_regrown ((ae RB).cell 3 _ rfl);have m4:=cell_regrown ((ae RB).cell 4 _ rfl);have m5:=cell_regrown ((ae RB).cell 5 _ rfl);have m6:=cell_regrown ((ae RB).cell 6 _ rfl);have m7:=cell_regrown ((ae RB).cell 7 _ rfl);have cE:=fun d os=>Calls.regrown_of (w:=wc) (d:=d) (os:=os) (ae CE _ (aj (ae TB).1 (below_regrown wc d os)));have cC:=fun d os=>Calls.regrown_of (w:=wc) (d:=d) (os:=os) (ae CCr _);refine wp_region_quiet_below hmix (by kernel_rfl) ?_;repeat (quiet_step (first|exact cE _ _|exact cC _ _))
   refine wpQuiet_nil ?_;intro zw hw';obtain⟨⟨dq,osq⟩,hw2⟩:=hw';have HZ:=below_regrown wc dq osq;rw[←hw2]at HZ;have T9:=af ((ae TB).later HZ);have R9:=af ((ae RB).later HZ (ae RB).1);clear hw2 HZ k4 k2 cE cC TB RB m0 m1 m2 m3 m4 m5 m6 m7;have rA:=(ae R9).cells (n:=8) rfl;have bA:=(ae T9).2.2.cells (n:=8) rfl;have gA:=(ae T9).2.2.frees (n:=8) rfl;have TZ:=af (FD (ae T9).1 (Nat.le_succ _) (.string nm) (.int .i64 yy) (.int .i64 mo) (.int .i64 dd) (.int .i64 hh') (.int .i64 mi) (.int .i64 ss) (.string UT));have ZZ:=af ((ae T9).2.2.set8 (.string nm) (.int .i64 yy) (.int .i64 mo) (.int .i64 dd) (.int .i64 hh') (.int .i64 mi) (.int .i64 ss) (.string UT));go_wp2;have zA:=(ae ZZ).cells (n:=8) rfl;refine bodyPost_ret (v:=.tuple #[.agg #[.string nm,.int .i64 yy,.int .i64 mo,.int .i64 dd,.int .i64 hh',.int .i64 mi,.int .i64 ss,.string UT],.bool true]) (by simp[results,Tryz.results66,go_sem,zA]) rfl ⟨ae HV,ae TZ⟩
  all_goals intro hz
  all_goals have HV:Hid (Ending.returned (.tuple #[.agg #[.string ⟨#[]⟩,.int .i64 0,.int .i64 0,.int .i64 0,.int .i64 0,.int .i64 0,.int .i64 0,.string ⟨#[]⟩],.bool false])=RES):=by show _=_;rw[←ae HRES,if_neg (by rw[hz];decide)];rfl
  all_goals clear hz
  rintro rfl;rotate_left;rintro rfl rfl;rotate_left;rintro rfl rfl rfl;rotate_left;rintro rfl rfl rfl k1b k1c;rotate_left;rintro rfl rfl rfl k1b k1c k2b k2c;rotate_left;all_goals(
   have k4:=cell_regrown ((ae TB).2.1.cell 4 _ rfl);have k2:=cell_regrown ((ae TB).2.1.cell 2 _ rfl);have m0:=cell_regrown ((ae RB).cell 0 _ rfl);have m1:=cell_regrown ((ae RB).cell 1 _ rfl);have m2:=cell_regrown ((ae RB).cell 2 _ rfl);have m3:=cell_regrown ((ae RB).cell 3 _ rfl);have m4:=cell_regrown ((ae RB).cell 4 _ rfl);have m5:=cell_regrown ((ae RB).cell 5 _ rfl);have m6:=cell_regrown ((ae RB).cell 6 _ rfl);have m7:=cell_regrown ((ae RB).cell 7 _ rfl);have cE:=fun d os=>Calls.regrown_of (w:=wc) (d:=d) (os:=os) (ae CE _ (aj (ae TB).1 (below_regrown wc d os)));have cC:=fun d os=>Calls.regrown_of (w:=wc) (d:=d) (os:=os) (ae CCr _);refine wp_region_quiet_below hmix (by kernel_rfl) ?_;repeat (quiet_step (first|exact cE _ _|exact cC _ _))
   refine wpQuiet_nil ?_;intro zw hw';obtain⟨⟨dq,osq⟩,hw2⟩:=hw';have HZ:=below_regrown wc dq osq;rw[←hw2]at HZ;have T9:=af ((ae TB).later HZ);have R9:=af ((ae RB).later HZ (ae RB).1);clear hw2 HZ k4 k2 cE cC TB RB m0 m1 m2 m3 m4 m5 m6 m7;have bA:=(ae T9).2.2.cells (n:=8) rfl;have gA:=(ae T9).2.2.frees (n:=8) rfl;have TZ:=af (FD (ae T9).1 (Nat.le_succ _) (.string ⟨#[]⟩) (.int .i64 0) (.int .i64 0) (.int .i64 0) (.int .i64 0) (.int .i64 0) (.int .i64 0) (.string ⟨#[]⟩));have ZZ:=af ((ae T9).2.2.set8 (.string ⟨#[]⟩) (.int .i64 0) (.int .i64 0) (.int .i64 0) (.int .i64 0) (.int .i64 0) (.int .i64 0) (.string ⟨#[]⟩));go_wp2;have zA:=(ae ZZ).cells (n:=8) rfl;refine bodyPost_ret (v:=.tuple #[.agg #[.string ⟨#[]⟩,.int .i64 0,.int .i64 0,.int .i64 0,.int .i64 0,.int .i64 0,.int .i64 0,.string ⟨#[]⟩],.bool false]) (by simp[results,Tryz.results66,go_sem,zA]) rfl ⟨ae HV,ae TZ⟩
  )
theorem MC(s:ByteArray):enB (wd s.data.toList 8 2) (wd s.data.toList 10 4) (wd s.data.toList 14 4) (wd s.data.toList 22 4) (nmB s) (bdB s)=((txO (wd s.data.toList 8 2) (bdB s)&&(decide (wd s.data.toList 14 4=aQ 0 (txT (wd s.data.toList 8 2) (bdB s)).data.toList)&&decide (wd s.data.toList 22 4=(txT (wd s.data.toList 8 2) (bdB s)).size)))&&Db s (txT (wd s.data.toList 8 2) (bdB s)))/\(enB (wd s.data.toList 8 2) (wd s.data.toList 10 4) (wd s.data.toList 14 4) (wd s.data.toList 22 4) (nmB s) (bdB s)=true->enE (wd s.data.toList 10 4) (nmB s) (uxT (wd s.data.toList 8 2) (bdB s))=GL s (txT (wd s.data.toList 8 2) (bdB s))):=by
 cases ho:txO (wd s.data.toList 8 2) (bdB s)
 · simp[enB,ho]
 ·
  unfold enB enE GL Db;rw[Mp ho,ho];have hg:=Gj (n:=(wd s.data.toList 10 4:Nat)) (by omega);cases hk:gOk ((wd s.data.toList 10 4:Nat):Int)
  · rw[hk]at hg;refine⟨?_,by simp⟩;unfold j8;rw[←hg];simp
  ·
   simp only[zz,if_true];refine⟨?_,fun _=>trivial⟩;rw[Bool.eq_iff_iff];simp only[Bool.and_eq_true,decide_eq_true_eq,Bool.true_and];constructor
   · rintro⟨a,b,c⟩;exact⟨⟨c.symm,b.symm⟩,a⟩
   · rintro⟨⟨a,b⟩,c⟩;exact⟨c,b.symm,a.symm⟩
theorem FX{how st cr lg:Nat}{nm b:ByteArray}(h:enB how st cr lg nm b=true):b.size<=700:=by
 simp only[enB,Bool.and_eq_true]at h;obtain⟨h1,_,h3,_⟩:=h;unfold txO pV at h1;by_cases h0:how=0
 ·
  subst h0;have e:uxT 0 b=b:=by simp[uxT,txT]
  rw[e]at h3;have:=(cM h3).2.1;omega
 ·
  rw[if_neg h0]at h1;by_cases h8:how=8
  ·
   rw[if_pos h8]at h1;unfold cH at h1;by_cases hz:b.size<=700
   · exact hz
   · rw[if_neg hz]at h1;cases h1
  · rw[if_neg h8]at h1;cases h1
theorem GM{s:ByteArray}(h:hdB s=true):z7 s=if enB (wd s.data.toList 8 2) (wd s.data.toList 10 4) (wd s.data.toList 14 4) (wd s.data.toList 22 4) (nmB s) (bdB s)=true then .tuple #[enE (wd s.data.toList 10 4) (nmB s) (uxT (wd s.data.toList 8 2) (bdB s)),.int .i64 ((30+wd s.data.toList 26 2+wd s.data.toList 18 4:Nat):Int),.bool true]else .tuple #[noE,.int .i64 0,.bool false]:=by
 obtain⟨e1,e2⟩:=MC s;rw[L3 h,←e1];by_cases hb:enB (wd s.data.toList 8 2) (wd s.data.toList 10 4) (wd s.data.toList 14 4) (wd s.data.toList 22 4) (nmB s) (bdB s)=true
 · rw[if_pos hb,if_pos hb,e2 hb]
 · rw[if_neg hb,if_neg hb]
end Go.Proofs.YtkpfkgoiaicgbaaGreatDoor
namespace Go.Proofs.YtkpfkgoiaicgbaaGreatDoor
open Corb
theorem Jj(t:ByteArray)(ht:t.size<=300):pV (eW t) (bj t)=some t:=by
 unfold eW bj pV
 split
 · rw[if_neg (by decide),if_pos rfl,(zE t ht).1];simp
 · simp
theorem K7{y mo d h mi s:Int}(k:eu y mo d h mi s=true):gY (stN y mo d h mi s)=y/\gM (stN y mo d h mi s)=mo/\gD (stN y mo d h mi s)=d/\gH (stN y mo d h mi s)=h/\gI (stN y mo d h mi s)=mi/\gS (stN y mo d h mi s)=s:=by
 obtain⟨⟨a0,a1⟩,⟨b0,b1⟩,⟨c0,_,c1⟩,⟨d0,d1⟩,⟨e0,e1⟩,⟨f0,f1⟩,f2⟩:=IR k;simp only[gY,gM,gD,gH,gI,gS,stN];omega
theorem xr{n t:ByteArray}{N:Nat}(hN:N<4294967296)(hn:n.size<65536)(ht:t.size<4294967296)(r:ByteArray) :
  hdB (cJ n t N++r)=true/\wd (cJ n t N++r).data.toList 8 2=eW t/\wd (cJ n t N++r).data.toList 10 4=N/\wd (cJ n t N++r).data.toList 14 4=aQ 0 t.data.toList/\wd (cJ n t N++r).data.toList 18 4=(bj t).size/\wd (cJ n t N++r).data.toList 22 4=t.size/\wd (cJ n t N++r).data.toList 26 2=n.size/\nmB (cJ n t N++r)=n/\bdB (cJ n t N++r)=bj t:=by
 have hb:=qq t;have hh:=tt t;have hz:=(pj hN hn ht).1;have e:(cJ n t N++r).data.toList=(bJ (eW t) N (aQ 0 t.data.toList) (bj t).size t.size n).data.toList++((bj t).data.toList++r.data.toList):=by
  rw[show(cJ n t N++r).data.toList=(cJ n t N).data.toList++r.data.toList by simp,rp,List.append_assoc]
 obtain⟨r0,r1,r2,r3,r4,r5,r6,r7,r8⟩:=qJ (how:=eW t) (st:=N) (crc:=aQ 0 t.data.toList) (pk:=(bj t).size) (lg:=t.size) (nm:=n) ((bj t).data.toList++r.data.toList) (by omega) hN (jk _ _ (by omega)) (by omega) ht hn;rw[←e]at r0 r1 r2 r3 r4 r5 r6 r7 r8;refine⟨uO.2 ⟨?_,r0,?_⟩,r1,r2,r3,r4,r5,r6,eg ?_,eg ?_⟩
 · rw[ByteArray.size_append];omega
 · rw[r6,r4,ByteArray.size_append];omega
 · rw[xE,r6,r7]
 · rw[FA,r6,r4,r8,List.take_append_of_le_length (by simp),List.take_of_length_le (by simp)]
end Go.Proofs.YtkpfkgoiaicgbaaGreatDoor
