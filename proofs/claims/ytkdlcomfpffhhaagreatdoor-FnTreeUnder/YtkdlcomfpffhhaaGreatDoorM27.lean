/- Of what the proof is made: 6 texts, one behind the other. -/
import Derived.Test.YtkdlcomfpffhhaaGreatDoorM17
import Derived.Test.YtkdlcomfpffhhaaGreatDoorShelf
import Derived.Test.YtkdlcomfpffhhaaGreatDoorM8
import Derived.Test.YtkdlcomfpffhhaaGreatDoorM5
import Derived.Test.YtkdlcomfpffhhaaGreatDoorM7
set_option linter.unusedSimpArgs false
set_option linter.unusedVariables false
set_option maxHeartbeats 4000000
namespace Go.Proofs.YtkdlcomfpffhhaaGreatDoor
open Go.RowKit
def BH:ByteArray:=⟨#[97,98,99,100,101,102,103,104,105,106,107,108,109,110,111,112,113,114,115,116,117,118,119,120,121,122,48,49,50,51,52,53,54,55,56,57,46,45,95]⟩
theorem zt(b:UInt8):Lib.indexByte BH.data.toList ((b.toNat:Int).toNat.toUInt8)=Lib.indexByte xD b:=by
 have:(b.toNat:Int).toNat.toUInt8=b:=by simp
 rw[this];rfl
theorem De(b:UInt8)(w:World):Calls Tryz.prog 86 #[.string BH,.int .u8 (b.toNat:Int)] w fun e w'=>e = .returned (.int .i64 (Lib.indexByte xD b))/\w'=w:=by
 have:=Tryz.strings_IndexByte BH (b.toNat:Int) w;rw[zt]at this;exact this
set_option maxRecDepth 100000 in
theorem zS(p:ByteArray)(w:World)(hs:p.size<=1048576) :
  Calls Tryz.prog 55 #[.string p] w fun e w'=>e = .returned (.bool (dS p.data.toList))/\Below w.heap.size w w':=by
 have hsI:(p.size:Int)<=1048576:=by omega
 obtain⟨c,x1,cs,f,hcv,hbx,hrow,hcs⟩:=y7 p w;have HB:=af hbx;have HC:Hid (∀i (h:i<p.size),x1.cell? ⟨w.heap.size,i,none⟩=some (.int .u8 (p[i].toNat:Int))):=fun i h=>Ed hrow (hcs i h);have HI:=af (fun b W=>De b W);unfold BH at HI;clear hs hrow hcs hbx;go_enter Tryz.func55,Tryz.ntmps55;go_wp2_with fail
 go_loop [4,8] (fun _ i=>∃m:Nat,m<=p.size/\i = .int .i64 m/\∀j (hj:j<p.size),j<m->okB p[j]=true) (fun _ i=>p.size-(intOf i).toNat)
 case atStart=>exact⟨0,a0h _,rfl,fun j _ hj=>absurd hj (by omega)⟩
 case round=>
  obtain⟨m,hm,rfl,hoks⟩:=hrel;have HOKS:=af hoks;have HMM:=af hm;clear hoks;by_cases hml:m<p.size
  ·
   have hmI:(m:Int)<(p.size:Int):=by omega
   have HML:=af hml;have hc:=ae HC m hml;have HMX:Hid (okB p[m]=true->∀j (hj:j<p.size),j<m+1->okB p[j]=true):=by
    intro e j hj hjm;by_cases hjk:j=m
    · subst hjk;exact e
    · exact ae HOKS j hj (by omega)
   have HNo:=af (fun e=>@lr p m hml e);have hpin:=Kt p[m];have HIb:=af (ae HI p[m]);generalize p[m]=b at *
   generalize Lib.indexByte xD b=ix at *
   clear hm HOKS HMM HI HC;cases hok:okB b
   ·
    have hix:ix<0:=by rw[hok]at hpin;simpa using hpin
    have HP:=af (ae HNo hok);clear hpin;go_wp2_with (go_at_call 86;refine(ae HIb _).mono ?_;rintro e w9 ⟨rfl,hw9⟩;rw[hw9];clear hw9);go_ret;exact⟨ak (ae HP).symm,ae HB⟩
   ·
    have hix:¬ ix<0:=by rw[hok]at hpin;simpa using hpin
    have HX:=af (ae HMX hok);clear hpin;go_wp2_with (go_at_call 86;refine(ae HIb _).mono ?_;rintro e w9 ⟨rfl,hw9⟩;rw[hw9];clear hw9)
    go_round
    case rel=>exact⟨m+1,by have:=ae HML;omega,by go_num,ae HX⟩
    case measure=>have:=ae HML;simp[intOf];omega
  ·
   obtain rfl:m=p.size:=by have:=ae HMM;omega
   have HOK2:Hid (∀j (hj:j<p.size),okB p[j]=true):=fun j hj=>ae HOKS j hj hj;clear HOKS hml hm HI HC;by_cases z1:(1:Int)<=(p.size:Int)
   ·
    by_cases z2:(p.size:Int)<=10
    ·
     have hz:inB (p.size:Int) 1 10=true:=aD.2 ⟨z1,z2⟩;cases d1:(p.toList == [46])
     ·
      cases d2:(p.toList == [46,46])
      · have HP:=af (BI (ae HOK2) hz d1 d2);go_wp2;go_ret;exact⟨ak (ae HP).symm,ae HB⟩
      ·
       have HP:=af (tw d2);have d2':p.toList=[46,46]:=by simpa using d2
       go_wp2;go_ret;exact⟨ak (ae HP).symm,ae HB⟩
     ·
      have HP:=af (xE d1);have d1':p.toList=[46]:=by simpa using d1
      go_wp2;go_ret;exact⟨ak (ae HP).symm,ae HB⟩
    · have HP:=af (ou (eB.2 (.inr (by omega)):inB (p.size:Int) 1 10=false));go_wp2;go_ret;exact⟨ak (ae HP).symm,ae HB⟩
   · have HP:=af (ou (eB.2 (.inl (by omega)):inB (p.size:Int) 1 10=false));go_wp2;go_ret;exact⟨ak (ae HP).symm,ae HB⟩
def mn:ByteArray:=⟨#[47]⟩
def mf(s:ByteArray):List ByteArray:=Lib.splitB mn 0 (Lib.countB s mn) s
theorem DY(s:ByteArray):(mf s).length=Lib.countB s mn+1:=Lib.splitB_all mn (by decide) 0 _ s rfl
theorem DX(s:ByteArray):(mf s).map (·.data.toList)=lG s.data.toList:=by
 unfold mf lG;rw[Lib.splitB_data,←oB];rfl
theorem Eh(s:ByteArray)(m:Int)(w:World)(hs:s.size<=1048576)(hm:w.cell? ⟨2,0,none⟩=some (.int .i64 m)) :
  Calls Tryz.prog 54 #[.string s,.string mn] w fun e w'=>e = .returned (.slice (some ⟨w.heap.size,0,none⟩) (mf s).length (mf s).length)/\w'=w.alloc (.cells ((mf s).map Value.string).toArray 9):=by
 have:=Tryz.strings_Split s mn m w (by omega) hm (by decide);rw[DY];exact this
set_option maxRecDepth 100000 in
theorem kb(s:ByteArray)(m:Int)(w:World)(hs:s.size<=1048576)(hm:w.cell? ⟨2,0,none⟩=some (.int .i64 m)) :
  Calls Tryz.prog 25 #[.string s] w fun e w'=>e = .returned (.bool (gn s.data.toList))/\Below w.heap.size w w':=by
 have HSP:=af (Eh s m w hs hm);unfold mn at HSP;have hcut:=DX s;generalize mf s=l at *
 obtain⟨n,hn⟩:∃n,l.length=n:=⟨_,rfl⟩;rw[hn]at HSP;have hnS:n<=s.size+1:=by
  have e:=congrArg List.length hcut;have:=mC s.data.toList [];simp only[a0S]at e;have h2:s.data.toList.length=s.size:=by simp
  unfold lG at e;omega
 have hnI:(n:Int)<=1048577:=by omega
 have PL:Hid (∀k,k<n->(l.getD k ByteArray.empty).size<=1048576):=by
  intro k hk;have hmem:(l.getD k ByteArray.empty).data.toList∈lG s.data.toList:=by
   rw[←hcut,a2I];exact⟨l.getD k ByteArray.empty,by simp[List.getD,hn,hk],rfl⟩
  have:=kZ s.data.toList [] _ hmem;have e1:(l.getD k ByteArray.empty).data.toList.length=(l.getD k ByteArray.empty).size:=by simp
  have e2:s.data.toList.length=s.size:=by simp
  simp only[a1i]at *
  omega
 have HNO:=af (fun j (hj:j<l.length)=>@Bt s l hcut j hj);have HYES:=af (@xg s l hcut);rw[hn]at HNO HYES;obtain⟨x1,hx1⟩:∃x,x=w.alloc (.cells (l.map Value.string).toArray 9):=⟨_,rfl⟩;have HC:Hid (∀j,j<n->x1.cell? ⟨w.heap.size,j,none⟩=some (.string (l.getD j ByteArray.empty))):=by
  intro j hj;rw[hx1];have:j<l.length:=by omega
  simp[this,List.getD]
 have HB1:Hid (Below w.heap.size w x1):=by rw[hx1];exact(a0c _ _).alloc (a0a _) _
 have HL1:Hid (w.heap.size<x1.heap.size):=by show _<_;rw[hx1];simp
 rw[←hx1]at HSP;clear hx1 hs hm hcut hnS hn;go_enter Tryz.func25,Tryz.ntmps25;go_wp2_with fail;refine(ae HSP).mono ?_;rintro e y1 ⟨rfl,hy1⟩;rw[hy1];clear hy1 HSP;go_wp2_with fail
 go_loopw [5,10] (fun _ i wr=>∃k:Nat,k<=n/\i = .int .i64 k/\(∀j,j<k->dS (l.getD j ByteArray.empty).data.toList=true)/\Below x1.heap.size x1 wr) (fun _ i _=>n-(intOf i).toNat)
 case atStart=>exact⟨0,a0h _,rfl,fun j hj=>absurd hj (by omega),a0c _ _⟩
 case round=>
  obtain⟨k,hk,rfl,hall,hbel⟩:=hrel;have HALL:=af hall;have HK:=af hk;have HBel:=af hbel;clear hall;by_cases hkn:k<n
  ·
   have hkI:(k:Int)<(n:Int):=by omega
   have hc:=(hbel.cell (p:=⟨w.heap.size,k,none⟩) (ae HL1)).trans (ae HC k hkn);have HNOk:=af (ae HNO k hkn);have HNX:Hid (dS (l.getD k ByteArray.empty).data.toList=true->∀j,j<k+1->dS (l.getD j ByteArray.empty).data.toList=true):=by
    intro e j hj;by_cases hjk:j=k
    · rw[hjk];exact e
    · exact ae HALL j (by omega)
   have HKN:=af hkn;have HPS:=af (ae PL k hkn);clear hk HALL hbel;generalize l.getD k ByteArray.empty=p at *
   go_wp2_with fail;refine(zS p _ (ae HPS)).mono ?_;rintro e z1 ⟨rfl,hz⟩;have HZ:=af (aj (ae HBel) hz);clear hz;cases hp:dS p.data.toList
   · have HP:=af (ae HNOk hp);go_wp2;go_ret;exact⟨ak (ae HP).symm,(ae HB1).trans ((ae HZ).mono (ae HB1).size)⟩
   ·
    have HP:=af (ae HNX hp);go_wp2;go_roundw
    case rel=>exact⟨k+1,by have:=ae HKN;omega,by go_num,ae HP,ae HZ⟩
    case measure=>have:=ae HKN;simp[intOf];omega
  ·
   obtain rfl:k=n:=by omega
   have HY:=af (ae HYES (ae HALL));have HB:=af ((ae HB1).trans (hbel.mono (ae HB1).size));clear HALL HYES HNO HC hbel;by_cases h4:k<=4
   ·
    have h4I:(k:Int)<=4:=by omega
    go_wp2;go_ret;exact⟨ak (by rw[ae HY];simp[h4]),ae HB⟩
   ·
    have h4I:¬ (k:Int)<=4:=by omega
    go_wp2;go_ret;exact⟨ak (by rw[ae HY];simp[h4]),ae HB⟩
def Ent(w:World)(b:Nat)(n:ByteArray)(y mo d h mi s:Int)(t:ByteArray):Prop:=(w.cell? ⟨b,0,none⟩=some (.string n)/\w.cell? ⟨b,1,none⟩=some (.int .i64 y)/\w.cell? ⟨b,2,none⟩=some (.int .i64 mo)/\w.cell? ⟨b,3,none⟩=some (.int .i64 d)/\w.cell? ⟨b,4,none⟩=some (.int .i64 h)/\w.cell? ⟨b,5,none⟩=some (.int .i64 mi)/\w.cell? ⟨b,6,none⟩=some (.int .i64 s)/\w.cell? ⟨b,7,none⟩=some (.string t))/\(w.frozen? ⟨b,0,none⟩=false/\w.frozen? ⟨b,1,none⟩=false/\w.frozen? ⟨b,2,none⟩=false/\w.frozen? ⟨b,3,none⟩=false/\w.frozen? ⟨b,4,none⟩=false/\w.frozen? ⟨b,5,none⟩=false/\w.frozen? ⟨b,6,none⟩=false/\w.frozen? ⟨b,7,none⟩=false)/\b<w.heap.size
theorem nS(w:World)(n:ByteArray)(y mo d h mi s:Int)(t:ByteArray)(u:TypeId):Ent (w.alloc (.cells #[.string n,.int .i64 y,.int .i64 mo,.int .i64 d,.int .i64 h,.int .i64 mi,.int .i64 s,.string t] u)) w.heap.size n y mo d h mi s t:=by
 refine⟨⟨?_,?_,?_,?_,?_,?_,?_,?_⟩,⟨?_,?_,?_,?_,?_,?_,?_,?_⟩,?_⟩<;>simp
theorem Ent.later{w w':World}{b B:Nat}{n t:ByteArray}{y mo d h mi s:Int}(k:Ent w b n y mo d h mi s t)(hb:Below B w w')(hB:b<B):Ent w' b n y mo d h mi s t:=by
 obtain⟨⟨c0,c1,c2,c3,c4,c5,c6,c7⟩,⟨f0,f1,f2,f3,f4,f5,f6,f7⟩,hlt⟩:=k;refine⟨⟨?_,?_,?_,?_,?_,?_,?_,?_⟩,⟨?_,?_,?_,?_,?_,?_,?_,?_⟩,a0k hlt hb.size⟩
 · exact(hb.cell (p:=⟨b,0,none⟩) hB).trans c0
 · exact(hb.cell (p:=⟨b,1,none⟩) hB).trans c1
 · exact(hb.cell (p:=⟨b,2,none⟩) hB).trans c2
 · exact(hb.cell (p:=⟨b,3,none⟩) hB).trans c3
 · exact(hb.cell (p:=⟨b,4,none⟩) hB).trans c4
 · exact(hb.cell (p:=⟨b,5,none⟩) hB).trans c5
 · exact(hb.cell (p:=⟨b,6,none⟩) hB).trans c6
 · exact(hb.cell (p:=⟨b,7,none⟩) hB).trans c7
 · exact(hb.frozen (p:=⟨b,0,none⟩) hB).trans f0
 · exact(hb.frozen (p:=⟨b,1,none⟩) hB).trans f1
 · exact(hb.frozen (p:=⟨b,2,none⟩) hB).trans f2
 · exact(hb.frozen (p:=⟨b,3,none⟩) hB).trans f3
 · exact(hb.frozen (p:=⟨b,4,none⟩) hB).trans f4
 · exact(hb.frozen (p:=⟨b,5,none⟩) hB).trans f5
 · exact(hb.frozen (p:=⟨b,6,none⟩) hB).trans f6
 · exact(hb.frozen (p:=⟨b,7,none⟩) hB).trans f7
theorem al{w:World}{b i j:Nat}{v:Value}{c:Option Value}(k:w.cell? ⟨b,j,none⟩=c)(h:i≠j):(w.setCell ⟨b,i,none⟩ v).cell? ⟨b,j,none⟩=c:=by
 rw[World.cell?_setCell_other _ _ _ _ (fun e=>h (by cases e;rfl))];exact k
theorem Ent.store{w:World}{b:Nat}{n t:ByteArray}{y mo d h mi s:Int}(k:Ent w b n y mo d h mi s t)(n':ByteArray)(y' mo' d' h' mi' s':Int)(t':ByteArray) :
  Ent ((((((((w.setCell ⟨b,0,none⟩ (.string n')).setCell ⟨b,1,none⟩ (.int .i64 y')).setCell ⟨b,2,none⟩ (.int .i64 mo')).setCell ⟨b,3,none⟩ (.int .i64 d')).setCell ⟨b,4,none⟩ (.int .i64 h')).setCell ⟨b,5,none⟩ (.int .i64 mi')).setCell ⟨b,6,none⟩ (.int .i64 s')).setCell ⟨b,7,none⟩ (.string t')) b n' y' mo' d' h' mi' s' t':=by
 obtain⟨⟨c0,c1,c2,c3,c4,c5,c6,c7⟩,⟨f0,f1,f2,f3,f4,f5,f6,f7⟩,hlt⟩:=k;refine⟨⟨?_,?_,?_,?_,?_,?_,?_,?_⟩,⟨?_,?_,?_,?_,?_,?_,?_,?_⟩,by simpa using hlt⟩
 · exact al (al (al (al (al (al (al (World.cell?_setCell_same _ _ _ c0) (by decide)) (by decide)) (by decide)) (by decide)) (by decide)) (by decide)) (by decide)
 · exact al (al (al (al (al (al (World.cell?_setCell_same _ _ _ (al (c1) (by decide))) (by decide)) (by decide)) (by decide)) (by decide)) (by decide)) (by decide)
 · exact al (al (al (al (al (World.cell?_setCell_same _ _ _ (al (al (c2) (by decide)) (by decide))) (by decide)) (by decide)) (by decide)) (by decide)) (by decide)
 · exact al (al (al (al (World.cell?_setCell_same _ _ _ (al (al (al (c3) (by decide)) (by decide)) (by decide))) (by decide)) (by decide)) (by decide)) (by decide)
 · exact al (al (al (World.cell?_setCell_same _ _ _ (al (al (al (al (c4) (by decide)) (by decide)) (by decide)) (by decide))) (by decide)) (by decide)) (by decide)
 · exact al (al (World.cell?_setCell_same _ _ _ (al (al (al (al (al (c5) (by decide)) (by decide)) (by decide)) (by decide)) (by decide))) (by decide)) (by decide)
 · exact al (World.cell?_setCell_same _ _ _ (al (al (al (al (al (al (c6) (by decide)) (by decide)) (by decide)) (by decide)) (by decide)) (by decide))) (by decide)
 · exact World.cell?_setCell_same _ _ _ (al (al (al (al (al (al (al (c7) (by decide)) (by decide)) (by decide)) (by decide)) (by decide)) (by decide)) (by decide))
 · simpa using f0
 · simpa using f1
 · simpa using f2
 · simpa using f3
 · simpa using f4
 · simpa using f5
 · simpa using f6
 · simpa using f7
theorem Ent.set_other{w:World}{b c o:Nat}{n t:ByteArray}{y mo d h mi s:Int}(k:Ent w b n y mo d h mi s t)(v:Value)(hc:b≠c):Ent (w.setCell ⟨c,o,none⟩ v) b n y mo d h mi s t:=by
 have e:(w.setCell ⟨c,o,none⟩ v).heap[b]?=w.heap[b]?:=a0J w ⟨c,o,none⟩ v b hc;obtain⟨⟨c0,c1,c2,c3,c4,c5,c6,c7⟩,⟨f0,f1,f2,f3,f4,f5,f6,f7⟩,hlt⟩:=k;refine⟨⟨?_,?_,?_,?_,?_,?_,?_,?_⟩,⟨?_,?_,?_,?_,?_,?_,?_,?_⟩,by simpa using hlt⟩
 · exact(World.cell?_of_block (w:=w) e).trans c0
 · exact(World.cell?_of_block (w:=w) e).trans c1
 · exact(World.cell?_of_block (w:=w) e).trans c2
 · exact(World.cell?_of_block (w:=w) e).trans c3
 · exact(World.cell?_of_block (w:=w) e).trans c4
 · exact(World.cell?_of_block (w:=w) e).trans c5
 · exact(World.cell?_of_block (w:=w) e).trans c6
 · exact(World.cell?_of_block (w:=w) e).trans c7
 · exact(World.frozen?_of_block (w:=w) e).trans f0
 · exact(World.frozen?_of_block (w:=w) e).trans f1
 · exact(World.frozen?_of_block (w:=w) e).trans f2
 · exact(World.frozen?_of_block (w:=w) e).trans f3
 · exact(World.frozen?_of_block (w:=w) e).trans f4
 · exact(World.frozen?_of_block (w:=w) e).trans f5
 · exact(World.frozen?_of_block (w:=w) e).trans f6
 · exact(World.frozen?_of_block (w:=w) e).trans f7
theorem mM{w w1:World}{n t:ByteArray}{y mo d h mi s:Int}{u:TypeId}(hb:Below (w.alloc (.cells #[.string n,.int .i64 y,.int .i64 mo,.int .i64 d,.int .i64 h,.int .i64 mi,.int .i64 s,.string t] u)).heap.size (w.alloc (.cells #[.string n,.int .i64 y,.int .i64 mo,.int .i64 d,.int .i64 h,.int .i64 mi,.int .i64 s,.string t] u)) w1):Ent w1 w.heap.size n y mo d h mi s t/\Below w.heap.size w w1:=
 ⟨(nS w n y mo d h mi s t u).later hb (by simp),((a0c _ _).alloc (a0a _) _).trans (hb.mono (by simp))⟩
def jW(n:ByteArray)(y mo d h mi s:Int)(t:ByteArray):Bool:=gn n.data.toList&&(eJ y mo d h mi s&&decide (t.size<=300))
theorem jF(n:ByteArray)(y mo d h mi s:Int)(t:ByteArray)(m:Int)(w:World)(hs:n.size<=1048576)(ht:(t.size:Int)<=9223372036854775807)(hm:w.cell? ⟨2,0,none⟩=some (.int .i64 m)) :
  Calls Tryz.prog 119 #[.agg #[.string n,.int .i64 y,.int .i64 mo,.int .i64 d,.int .i64 h,.int .i64 mi,.int .i64 s,.string t]] w fun e w'=>e = .returned (.bool (jW n y mo d h mi s t))/\Below w.heap.size w w':=by
 have HSZ:=af hs;clear hs;have HM:Hid ((w.alloc (.cells #[.string n,.int .i64 y,.int .i64 mo,.int .i64 d,.int .i64 h,.int .i64 mi,.int .i64 s,.string t] 32)).cell? ⟨2,0,none⟩=some (.int .i64 m)):=by
  show _=_;rw[World.cell?_alloc_past _ _ _ (World.block_lt_of_cell? _ _ hm)];exact hm
 clear hm;go_enter Tryz.func119,Tryz.ntmps119;go_wp2_with fail;refine(kb n m _ (ae HSZ) (ae HM)).mono ?_;rintro e w1 ⟨rfl,hb1⟩;obtain⟨X1,B1⟩:=mM hb1;have HX:=af X1;have HB1:=af B1;clear hb1 X1 B1;obtain⟨⟨c0,c1,c2,c3,c4,c5,c6,c7⟩,_,hlt⟩:=ae HX;cases hk:gn n.data.toList
 ·
  have HP:Hid (jW n y mo d h mi s t=false):=by simp[Hid,jW,hk]
  go_wp2;go_ret;exact⟨ak (ae HP).symm,ae HB1⟩
 ·
  go_wp2_with fail;refine(cO y mo d h mi s _).mono ?_;rintro e w2 ⟨rfl,hb2⟩;have HX2:=af ((ae HX).later hb2 (ae HX).2.2);have HB2:=af (aj (ae HB1) hb2);clear hb2 HX HB1 c0 c1 c2 c3 c4 c5 c6 c7;obtain⟨⟨c0,c1,c2,c3,c4,c5,c6,c7⟩,_,_⟩:=ae HX2;cases ho:eJ y mo d h mi s
  ·
   have HP:Hid (jW n y mo d h mi s t=false):=by simp[Hid,jW,hk,ho]
   go_wp2;go_ret;exact⟨ak (ae HP).symm,ae HB2⟩
  ·
   have HP:Hid (jW n y mo d h mi s t=decide (t.size<=300)):=by simp[Hid,jW,hk,ho]
   by_cases h3:(t.size:Int)<=300
   · go_wp2;go_ret;exact⟨ak (by rw[ae HP];simp;omega),ae HB2⟩
   · go_wp2;go_ret;exact⟨ak (by rw[ae HP];simp;omega),ae HB2⟩
def Blk(w:World)(b:Nat)(vs:List Value):Prop:=b<w.heap.size/\∀(i:Nat) (v:Value),vs[i]?=some v->w.cell? ⟨b,i,none⟩=some v/\w.frozen? ⟨b,i,none⟩=false
theorem Blk.cell{w:World}{b:Nat}{vs:List Value}(h:Blk w b vs)(i:Nat)(v:Value)(e:vs[i]?=some v):w.cell? ⟨b,i,none⟩=some v:=(h.2 i v e).1
theorem Blk.free{w:World}{b:Nat}{vs:List Value}(h:Blk w b vs)(i:Nat)(hi:i<vs.length):w.frozen? ⟨b,i,none⟩=false:=(h.2 i (vs[i]) (by simp[hi])).2
theorem Blk.later{w w':World}{b B:Nat}{vs:List Value}(h:Blk w b vs)(hb:Below B w w')(hB:b<B):Blk w' b vs:=
 ⟨a0k h.1 hb.size,fun i v e=>⟨(hb.cell (p:=⟨b,i,none⟩) hB).trans (h.2 i v e).1,(hb.frozen (p:=⟨b,i,none⟩) hB).trans (h.2 i v e).2⟩⟩
theorem Blk.drew{w:World}{b:Nat}{vs:List Value}(h:Blk w b vs):Blk w.drew b vs:=h
theorem Blk.set_other{w:World}{b c o:Nat}{vs:List Value}(h:Blk w b vs)(v:Value)(hc:b≠c):Blk (w.setCell ⟨c,o,none⟩ v) b vs:=by
 have e:(w.setCell ⟨c,o,none⟩ v).heap[b]?=w.heap[b]?:=a0J w ⟨c,o,none⟩ v b hc;exact⟨by simpa using h.1,fun i x ex=>⟨(World.cell?_of_block (w:=w) e).trans (h.2 i x ex).1,(World.frozen?_of_block (w:=w) e).trans (h.2 i x ex).2⟩⟩
theorem Blk.set{w:World}{b:Nat}{vs:List Value}(h:Blk w b vs)(o:Nat)(v:Value):Blk (w.setCell ⟨b,o,none⟩ v) b (vs.set o v):=by
 refine⟨by simpa using h.1,fun i x ex=>?_⟩;by_cases hi:o=i
 ·
  subst hi;rw[List.getElem?_set]at ex;by_cases hl:o<vs.length
  ·
   rw[a0d rfl,a0d hl]at ex;obtain rfl:v=x:=by simpa using ex
   have:=h.2 o vs[o] (by simp[hl]);exact⟨World.cell?_setCell_same _ _ _ this.1,by simpa using this.2⟩
  · rw[a0d rfl,a0e hl]at ex;cases ex
 · rw[List.getElem?_set_ne hi]at ex;have:=h.2 i x ex;exact⟨al this.1 hi,by simpa using this.2⟩
theorem aR(w:World)(cs:Array Value)(u:TypeId):Blk (w.alloc (.cells cs u)) w.heap.size cs.toList:=by
 refine⟨by simp,fun i v e=>?_⟩;have e':cs[i]?=some v:=by simpa using e
 constructor
 · simp[e']
 · simp
theorem Blk.cells{w:World}{b:Nat}{vs:List Value}(h:Blk w b vs){n:Nat}(hn:vs.length=n):∀i,i<n->w.cell? ⟨b,i,none⟩=vs[i]?:=fun i hi=>by
 have e:vs[i]?=some (vs[i]'(by omega)):=List.getElem?_eq_getElem (by omega);rw[e];exact h.cell i _ e
theorem Blk.frees{w:World}{b:Nat}{vs:List Value}(h:Blk w b vs){n:Nat}(hn:vs.length=n):∀i,i<n->w.frozen? ⟨b,i,none⟩=false:=fun i hi=>h.free i (by omega)
theorem G9{b c:Nat}{W:World}{vs:List Value}(h:Blk W c vs)(hc:c≠b)(a0 a1 a2 a3 a4 a5 a6 a7:Value):Blk ((((((((W.setCell ⟨b,0,none⟩ a0).setCell ⟨b,1,none⟩ a1).setCell ⟨b,2,none⟩ a2).setCell ⟨b,3,none⟩ a3).setCell ⟨b,4,none⟩ a4).setCell ⟨b,5,none⟩ a5).setCell ⟨b,6,none⟩ a6).setCell ⟨b,7,none⟩ a7) c vs:=((((((((h.set_other a0 hc).set_other a1 hc).set_other a2 hc).set_other a3 hc).set_other a4 hc).set_other a5 hc).set_other a6 hc).set_other a7 hc)
theorem Blk.set6{b:Nat}{W:World}{x0 x1 x2 x3 x4 x5:Value}(h:Blk W b [x0,x1,x2,x3,x4,x5])(a0 a1 a2 a3 a4 a5:Value):Blk ((((((W.setCell ⟨b,0,none⟩ a0).setCell ⟨b,1,none⟩ a1).setCell ⟨b,2,none⟩ a2).setCell ⟨b,3,none⟩ a3).setCell ⟨b,4,none⟩ a4).setCell ⟨b,5,none⟩ a5) b [a0,a1,a2,a3,a4,a5]:=((((((h.set 0 a0).set 1 a1).set 2 a2).set 3 a3).set 4 a4).set 5 a5)
theorem Fi{B b:Nat}{w W:World}(hb:Below B w W)(hB:B<=b)(a0 a1 a2 a3 a4 a5 a6:Value):Below B w (((((((W.setCell ⟨b,0,none⟩ a0).setCell ⟨b,1,none⟩ a1).setCell ⟨b,2,none⟩ a2).setCell ⟨b,3,none⟩ a3).setCell ⟨b,4,none⟩ a4).setCell ⟨b,5,none⟩ a5).setCell ⟨b,6,none⟩ a6):=(ai (ai (ai (ai (ai (ai (ai hb hB a0) hB a1) hB a2) hB a3) hB a4) hB a5) hB a6)
theorem Blk.set7{b:Nat}{W:World}{x0 x1 x2 x3 x4 x5 x6:Value}(h:Blk W b [x0,x1,x2,x3,x4,x5,x6])(a0 a1 a2 a3 a4 a5 a6:Value):Blk (((((((W.setCell ⟨b,0,none⟩ a0).setCell ⟨b,1,none⟩ a1).setCell ⟨b,2,none⟩ a2).setCell ⟨b,3,none⟩ a3).setCell ⟨b,4,none⟩ a4).setCell ⟨b,5,none⟩ a5).setCell ⟨b,6,none⟩ a6) b [a0,a1,a2,a3,a4,a5,a6]:=(((((((h.set 0 a0).set 1 a1).set 2 a2).set 3 a3).set 4 a4).set 5 a5).set 6 a6)
theorem G8{b c:Nat}{W:World}{vs:List Value}(h:Blk W c vs)(hc:c≠b)(a0 a1 a2 a3 a4 a5 a6:Value):Blk (((((((W.setCell ⟨b,0,none⟩ a0).setCell ⟨b,1,none⟩ a1).setCell ⟨b,2,none⟩ a2).setCell ⟨b,3,none⟩ a3).setCell ⟨b,4,none⟩ a4).setCell ⟨b,5,none⟩ a5).setCell ⟨b,6,none⟩ a6) c vs:=(((((((h.set_other a0 hc).set_other a1 hc).set_other a2 hc).set_other a3 hc).set_other a4 hc).set_other a5 hc).set_other a6 hc)
theorem Fj{B b:Nat}{w W:World}(hb:Below B w W)(hB:B<=b)(a0 a1 a2 a3 a4 a5 a6 a7:Value):Below B w ((((((((W.setCell ⟨b,0,none⟩ a0).setCell ⟨b,1,none⟩ a1).setCell ⟨b,2,none⟩ a2).setCell ⟨b,3,none⟩ a3).setCell ⟨b,4,none⟩ a4).setCell ⟨b,5,none⟩ a5).setCell ⟨b,6,none⟩ a6).setCell ⟨b,7,none⟩ a7):=(ai (ai (ai (ai (ai (ai (ai (ai hb hB a0) hB a1) hB a2) hB a3) hB a4) hB a5) hB a6) hB a7)
theorem Blk.set8{b:Nat}{W:World}{x0 x1 x2 x3 x4 x5 x6 x7:Value}(h:Blk W b [x0,x1,x2,x3,x4,x5,x6,x7])(a0 a1 a2 a3 a4 a5 a6 a7:Value):Blk ((((((((W.setCell ⟨b,0,none⟩ a0).setCell ⟨b,1,none⟩ a1).setCell ⟨b,2,none⟩ a2).setCell ⟨b,3,none⟩ a3).setCell ⟨b,4,none⟩ a4).setCell ⟨b,5,none⟩ a5).setCell ⟨b,6,none⟩ a6).setCell ⟨b,7,none⟩ a7) b [a0,a1,a2,a3,a4,a5,a6,a7]:=((((((((h.set 0 a0).set 1 a1).set 2 a2).set 3 a3).set 4 a4).set 5 a5).set 6 a6).set 7 a7)
theorem Ent.kn{w w':World}{b c:Nat}{n t:ByteArray}{y mo d h mi s:Int}(k:Ent w c n y mo d h mi s t)(hk:Kn b w w')(hc:c≠b):Ent w' c n y mo d h mi s t:=by
 obtain⟨⟨c0,c1,c2,c3,c4,c5,c6,c7⟩,⟨f0,f1,f2,f3,f4,f5,f6,f7⟩,hlt⟩:=k;have e:=hk.2.1 c hlt hc;refine⟨⟨?_,?_,?_,?_,?_,?_,?_,?_⟩,⟨?_,?_,?_,?_,?_,?_,?_,?_⟩,a0k hlt hk.2.2⟩
 · exact(World.cell?_of_block (w:=w) e).trans c0
 · exact(World.cell?_of_block (w:=w) e).trans c1
 · exact(World.cell?_of_block (w:=w) e).trans c2
 · exact(World.cell?_of_block (w:=w) e).trans c3
 · exact(World.cell?_of_block (w:=w) e).trans c4
 · exact(World.cell?_of_block (w:=w) e).trans c5
 · exact(World.cell?_of_block (w:=w) e).trans c6
 · exact(World.cell?_of_block (w:=w) e).trans c7
 · exact(World.frozen?_of_block (w:=w) e).trans f0
 · exact(World.frozen?_of_block (w:=w) e).trans f1
 · exact(World.frozen?_of_block (w:=w) e).trans f2
 · exact(World.frozen?_of_block (w:=w) e).trans f3
 · exact(World.frozen?_of_block (w:=w) e).trans f4
 · exact(World.frozen?_of_block (w:=w) e).trans f5
 · exact(World.frozen?_of_block (w:=w) e).trans f6
 · exact(World.frozen?_of_block (w:=w) e).trans f7
end Go.Proofs.YtkdlcomfpffhhaaGreatDoor
