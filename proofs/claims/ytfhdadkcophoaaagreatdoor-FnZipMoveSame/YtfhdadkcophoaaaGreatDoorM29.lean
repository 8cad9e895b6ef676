/- Of what the proof is made: 6 texts, one behind the other. -/
import Derived.Test.YtfhdadkcophoaaaGreatDoorM18
import Derived.Test.YtfhdadkcophoaaaGreatDoorShelf
import Derived.Test.YtfhdadkcophoaaaGreatDoorM9
import Derived.Test.YtfhdadkcophoaaaGreatDoorM6
import Derived.Test.YtfhdadkcophoaaaGreatDoorM8
set_option linter.unusedSimpArgs false
set_option linter.unusedVariables false
set_option maxHeartbeats 4000000
namespace Go.Proofs.YtfhdadkcophoaaaGreatDoor
open Go.RowKit
def BC:ByteArray:=⟨#[97,98,99,100,101,102,103,104,105,106,107,108,109,110,111,112,113,114,115,116,117,118,119,120,121,122,48,49,50,51,52,53,54,55,56,57,46,45,95]⟩
theorem zr(b:UInt8):Lib.indexByte BC.data.toList ((b.toNat:Int).toNat.toUInt8)=Lib.indexByte xF b:=by
 have:(b.toNat:Int).toNat.toUInt8=b:=by simp
 rw[this];rfl
theorem Db(b:UInt8)(w:World):Calls Tryz.prog 79 #[.string BC,.int .u8 (b.toNat:Int)] w fun e w'=>e = .returned (.int .i64 (Lib.indexByte xF b))/\w'=w:=by
 have:=Tryz.strings_IndexByte BC (b.toNat:Int) w;rw[zr]at this;exact this
set_option maxRecDepth 100000 in
theorem zP(p:ByteArray)(w:World)(hs:p.size<=1048576) :
  Calls Tryz.prog 49 #[.string p] w fun e w'=>e = .returned (.bool (dR p.data.toList))/\Below w.heap.size w w':=by
 have hsI:(p.size:Int)<=1048576:=by omega
 obtain⟨c,x1,cs,f,hcv,hbx,hrow,hcs⟩:=yY p w;have HB:=af hbx;have HC:Hid (∀i (h:i<p.size),x1.cell? ⟨w.heap.size,i,none⟩=some (.int .u8 (p[i].toNat:Int))):=fun i h=>D7 hrow (hcs i h);have HI:=af (fun b W=>Db b W);unfold BC at HI;clear hs hrow hcs hbx;go_enter Tryz.func49,Tryz.ntmps49;go_wp2_with fail
 go_loop [4,8] (fun _ i=>∃m:Nat,m<=p.size/\i = .int .i64 m/\∀j (hj:j<p.size),j<m->okB p[j]=true) (fun _ i=>p.size-(intOf i).toNat)
 case atStart=>exact⟨0,a0h _,rfl,fun j _ hj=>absurd hj (by omega)⟩
 case round=>
  obtain⟨m,hm,rfl,hoks⟩:=hrel;have HOKS:=af hoks;have HMM:=af hm;clear hoks;by_cases hml:m<p.size
  ·
   have hmI:(m:Int)<(p.size:Int):=by omega
   have HML:=af hml;have hc:=ae HC m hml;have HMX:Hid (okB p[m]=true->∀j (hj:j<p.size),j<m+1->okB p[j]=true):=by
    intro e j hj hjm;by_cases hjk:j=m
    · subst hjk;exact e
    · exact ae HOKS j hj (by omega)
   have HNo:=af (fun e=>@lx p m hml e);have hpin:=Ks p[m];have HIb:=af (ae HI p[m]);generalize p[m]=b at *
   generalize Lib.indexByte xF b=ix at *
   clear hm HOKS HMM HI HC;cases hok:okB b
   ·
    have hix:ix<0:=by rw[hok]at hpin;simpa using hpin
    have HP:=af (ae HNo hok);clear hpin;go_wp2_with (go_at_call 79;refine(ae HIb _).mono ?_;rintro e w9 ⟨rfl,hw9⟩;rw[hw9];clear hw9);go_ret;exact⟨ak (ae HP).symm,ae HB⟩
   ·
    have hix:¬ ix<0:=by rw[hok]at hpin;simpa using hpin
    have HX:=af (ae HMX hok);clear hpin;go_wp2_with (go_at_call 79;refine(ae HIb _).mono ?_;rintro e w9 ⟨rfl,hw9⟩;rw[hw9];clear hw9)
    go_round
    case rel=>exact⟨m+1,by have:=ae HML;omega,by go_num,ae HX⟩
    case measure=>have:=ae HML;simp[intOf];omega
  ·
   obtain rfl:m=p.size:=by have:=ae HMM;omega
   have HOK2:Hid (∀j (hj:j<p.size),okB p[j]=true):=fun j hj=>ae HOKS j hj hj;clear HOKS hml hm HI HC;by_cases z1:(1:Int)<=(p.size:Int)
   ·
    by_cases z2:(p.size:Int)<=10
    ·
     have hz:inB (p.size:Int) 1 10=true:=aB.2 ⟨z1,z2⟩;cases d1:(p.toList == [46])
     ·
      cases d2:(p.toList == [46,46])
      · have HP:=af (BE (ae HOK2) hz d1 d2);go_wp2;go_ret;exact⟨ak (ae HP).symm,ae HB⟩
      ·
       have HP:=af (tt d2);have d2':p.toList=[46,46]:=by simpa using d2
       go_wp2;go_ret;exact⟨ak (ae HP).symm,ae HB⟩
     ·
      have HP:=af (xG d1);have d1':p.toList=[46]:=by simpa using d1
      go_wp2;go_ret;exact⟨ak (ae HP).symm,ae HB⟩
    · have HP:=af (ou (eC.2 (.inr (by omega)):inB (p.size:Int) 1 10=false));go_wp2;go_ret;exact⟨ak (ae HP).symm,ae HB⟩
   · have HP:=af (ou (eC.2 (.inl (by omega)):inB (p.size:Int) 1 10=false));go_wp2;go_ret;exact⟨ak (ae HP).symm,ae HB⟩
def mt:ByteArray:=⟨#[47]⟩
def ml(s:ByteArray):List ByteArray:=Lib.splitB mt 0 (Lib.countB s mt) s
theorem DY(s:ByteArray):(ml s).length=Lib.countB s mt+1:=Lib.splitB_all mt (by decide) 0 _ s rfl
theorem DX(s:ByteArray):(ml s).map (·.data.toList)=lL s.data.toList:=by
 unfold ml lL;rw[Lib.splitB_data,←oC];rfl
theorem Eb(s:ByteArray)(m:Int)(w:World)(hs:s.size<=1048576)(hm:w.cell? ⟨2,0,none⟩=some (.int .i64 m)) :
  Calls Tryz.prog 48 #[.string s,.string mt] w fun e w'=>e = .returned (.slice (some ⟨w.heap.size,0,none⟩) (ml s).length (ml s).length)/\w'=w.alloc (.cells ((ml s).map Value.string).toArray 9):=by
 have:=Tryz.strings_Split s mt m w (by omega) hm (by decide);rw[DY];exact this
set_option maxRecDepth 100000 in
theorem qC(s:ByteArray)(m:Int)(w:World)(hs:s.size<=1048576)(hm:w.cell? ⟨2,0,none⟩=some (.int .i64 m)) :
  Calls Tryz.prog 24 #[.string s] w fun e w'=>e = .returned (.bool (gB s.data.toList))/\Below w.heap.size w w':=by
 have HSP:=af (Eb s m w hs hm);unfold mt at HSP;have hcut:=DX s;generalize ml s=l at *
 obtain⟨n,hn⟩:∃n,l.length=n:=⟨_,rfl⟩;rw[hn]at HSP;have hnS:n<=s.size+1:=by
  have e:=congrArg List.length hcut;have:=mH s.data.toList [];simp only[a0N]at e;have h2:s.data.toList.length=s.size:=by simp
  unfold lL at e;omega
 have hnI:(n:Int)<=1048577:=by omega
 have PL:Hid (∀k,k<n->(l.getD k ByteArray.empty).size<=1048576):=by
  intro k hk;have hmem:(l.getD k ByteArray.empty).data.toList∈lL s.data.toList:=by
   rw[←hcut,a2w];exact⟨l.getD k ByteArray.empty,by simp[List.getD,hn,hk],rfl⟩
  have:=li s.data.toList [] _ hmem;have e1:(l.getD k ByteArray.empty).data.toList.length=(l.getD k ByteArray.empty).size:=by simp
  have e2:s.data.toList.length=s.size:=by simp
  simp only[a02]at *
  omega
 have HNO:=af (fun j (hj:j<l.length)=>@Bq s l hcut j hj);have HYES:=af (@xo s l hcut);rw[hn]at HNO HYES;obtain⟨x1,hx1⟩:∃x,x=w.alloc (.cells (l.map Value.string).toArray 9):=⟨_,rfl⟩;have HC:Hid (∀j,j<n->x1.cell? ⟨w.heap.size,j,none⟩=some (.string (l.getD j ByteArray.empty))):=by
  intro j hj;rw[hx1];have:j<l.length:=by omega
  simp[this,List.getD]
 have HB1:Hid (Below w.heap.size w x1):=by rw[hx1];exact(a0b _ _).alloc (a0a _) _
 have HL1:Hid (w.heap.size<x1.heap.size):=by show _<_;rw[hx1];simp
 rw[←hx1]at HSP;clear hx1 hs hm hcut hnS hn;go_enter Tryz.func24,Tryz.ntmps24;go_wp2_with fail;refine(ae HSP).mono ?_;rintro e y1 ⟨rfl,hy1⟩;rw[hy1];clear hy1 HSP;go_wp2_with fail
 go_loopw [5,10] (fun _ i wr=>∃k:Nat,k<=n/\i = .int .i64 k/\(∀j,j<k->dR (l.getD j ByteArray.empty).data.toList=true)/\Below x1.heap.size x1 wr) (fun _ i _=>n-(intOf i).toNat)
 case atStart=>exact⟨0,a0h _,rfl,fun j hj=>absurd hj (by omega),a0b _ _⟩
 case round=>
  obtain⟨k,hk,rfl,hall,hbel⟩:=hrel;have HALL:=af hall;have HK:=af hk;have HBel:=af hbel;clear hall;by_cases hkn:k<n
  ·
   have hkI:(k:Int)<(n:Int):=by omega
   have hc:=(hbel.cell (p:=⟨w.heap.size,k,none⟩) (ae HL1)).trans (ae HC k hkn);have HNOk:=af (ae HNO k hkn);have HNX:Hid (dR (l.getD k ByteArray.empty).data.toList=true->∀j,j<k+1->dR (l.getD j ByteArray.empty).data.toList=true):=by
    intro e j hj;by_cases hjk:j=k
    · rw[hjk];exact e
    · exact ae HALL j (by omega)
   have HKN:=af hkn;have HPS:=af (ae PL k hkn);clear hk HALL hbel;generalize l.getD k ByteArray.empty=p at *
   go_wp2_with fail;refine(zP p _ (ae HPS)).mono ?_;rintro e z1 ⟨rfl,hz⟩;have HZ:=af (ag (ae HBel) hz);clear hz;cases hp:dR p.data.toList
   · have HP:=af (ae HNOk hp);go_wp2;go_ret;exact⟨ak (ae HP).symm,(ae HB1).trans ((ae HZ).mono (ae HB1).size)⟩
   ·
    have HP:=af (ae HNX hp);go_wp2;go_roundw
    case rel=>exact⟨k+1,by have:=ae HKN;omega,by go_num,ae HP,ae HZ⟩
    case measure=>have:=ae HKN;simp[intOf];omega
  ·
   obtain rfl:k=n:=by omega
   have HY:=af (ae HYES (ae HALL));have HB:=af ((ae HB1).trans (hbel.mono (ae HB1).size));clear HALL HYES HNO HC hbel;by_cases h4:k<=4
   ·
    have h4I:(k:Int)<=4:=by omega
    go_wp2;go_ret;exact⟨ak (by rw[ae HY];simp[h4]),ae HB⟩
   ·
    have h4I:¬ (k:Int)<=4:=by omega
    go_wp2;go_ret;exact⟨ak (by rw[ae HY];simp[h4]),ae HB⟩
def Ent(w:World)(b:Nat)(n:ByteArray)(y mo d h mi s:Int)(t:ByteArray):Prop:=(w.cell? ⟨b,0,none⟩=some (.string n)/\w.cell? ⟨b,1,none⟩=some (.int .i64 y)/\w.cell? ⟨b,2,none⟩=some (.int .i64 mo)/\w.cell? ⟨b,3,none⟩=some (.int .i64 d)/\w.cell? ⟨b,4,none⟩=some (.int .i64 h)/\w.cell? ⟨b,5,none⟩=some (.int .i64 mi)/\w.cell? ⟨b,6,none⟩=some (.int .i64 s)/\w.cell? ⟨b,7,none⟩=some (.string t))/\(w.frozen? ⟨b,0,none⟩=false/\w.frozen? ⟨b,1,none⟩=false/\w.frozen? ⟨b,2,none⟩=false/\w.frozen? ⟨b,3,none⟩=false/\w.frozen? ⟨b,4,none⟩=false/\w.frozen? ⟨b,5,none⟩=false/\w.frozen? ⟨b,6,none⟩=false/\w.frozen? ⟨b,7,none⟩=false)/\b<w.heap.size
theorem fC(w:World)(n:ByteArray)(y mo d h mi s:Int)(t:ByteArray)(u:TypeId):Ent (w.alloc (.cells #[.string n,.int .i64 y,.int .i64 mo,.int .i64 d,.int .i64 h,.int .i64 mi,.int .i64 s,.string t] u)) w.heap.size n y mo d h mi s t:=by
 refine⟨⟨?_,?_,?_,?_,?_,?_,?_,?_⟩,⟨?_,?_,?_,?_,?_,?_,?_,?_⟩,?_⟩<;>simp
theorem Ent.later{w w':World}{b B:Nat}{n t:ByteArray}{y mo d h mi s:Int}(k:Ent w b n y mo d h mi s t)(hb:Below B w w')(hB:b<B):Ent w' b n y mo d h mi s t:=by
 obtain⟨⟨c0,c1,c2,c3,c4,c5,c6,c7⟩,⟨f0,f1,f2,f3,f4,f5,f6,f7⟩,hlt⟩:=k;refine⟨⟨?_,?_,?_,?_,?_,?_,?_,?_⟩,⟨?_,?_,?_,?_,?_,?_,?_,?_⟩,a0g hlt hb.size⟩
 · exact(hb.cell (p:=⟨b,0,none⟩) hB).trans c0
 · exact(hb.cell (p:=⟨b,1,none⟩) hB).trans c1
 · exact(hb.cell (p:=⟨b,2,none⟩) hB).trans c2
 · exact(hb.cell (p:=⟨b,3,none⟩) hB).trans c3
 · exact(hb.cell (p:=⟨b,4,none⟩) hB).trans c4
 · exact(hb.cell (p:=⟨b,5,none⟩) hB).trans c5
 · exact(hb.cell (p:=⟨b,6,none⟩) hB).trans c6
 · exact(hb.cell (p:=⟨b,7,none⟩) hB).trans c7
 · exact(hb.frozen (p:=⟨b,0,none⟩) hB).trans f0
 · exact(hb.frozen (p:=⟨b,1,none⟩) hB).trans f1
 · exact(hb.frozen (p:=⟨b,2,none⟩) hB).trans f2
 · exact(hb.frozen (p:=⟨b,3,none⟩) hB).trans f3
 · exact(hb.frozen (p:=⟨b,4,none⟩) hB).trans f4
 · exact(hb.frozen (p:=⟨b,5,none⟩) hB).trans f5
 · exact(hb.frozen (p:=⟨b,6,none⟩) hB).trans f6
 · exact(hb.frozen (p:=⟨b,7,none⟩) hB).trans f7
theorem al{w:World}{b i j:Nat}{v:Value}{c:Option Value}(k:w.cell? ⟨b,j,none⟩=c)(h:i≠j):(w.setCell ⟨b,i,none⟩ v).cell? ⟨b,j,none⟩=c:=by
 rw[World.cell?_setCell_other _ _ _ _ (fun e=>h (by cases e;rfl))];exact k
theorem Ent.store{w:World}{b:Nat}{n t:ByteArray}{y mo d h mi s:Int}(k:Ent w b n y mo d h mi s t)(n':ByteArray)(y' mo' d' h' mi' s':Int)(t':ByteArray) :
  Ent ((((((((w.setCell ⟨b,0,none⟩ (.string n')).setCell ⟨b,1,none⟩ (.int .i64 y')).setCell ⟨b,2,none⟩ (.int .i64 mo')).setCell ⟨b,3,none⟩ (.int .i64 d')).setCell ⟨b,4,none⟩ (.int .i64 h')).setCell ⟨b,5,none⟩ (.int .i64 mi')).setCell ⟨b,6,none⟩ (.int .i64 s')).setCell ⟨b,7,none⟩ (.string t')) b n' y' mo' d' h' mi' s' t':=by
 obtain⟨⟨c0,c1,c2,c3,c4,c5,c6,c7⟩,⟨f0,f1,f2,f3,f4,f5,f6,f7⟩,hlt⟩:=k;refine⟨⟨?_,?_,?_,?_,?_,?_,?_,?_⟩,⟨?_,?_,?_,?_,?_,?_,?_,?_⟩,by simpa using hlt⟩
 · exact al (al (al (al (al (al (al (World.cell?_setCell_same _ _ _ c0) (by decide)) (by decide)) (by decide)) (by decide)) (by decide)) (by decide)) (by decide)
 · exact al (al (al (al (al (al (World.cell?_setCell_same _ _ _ (al (c1) (by decide))) (by decide)) (by decide)) (by decide)) (by decide)) (by decide)) (by decide)
 · exact al (al (al (al (al (World.cell?_setCell_same _ _ _ (al (al (c2) (by decide)) (by decide))) (by decide)) (by decide)) (by decide)) (by decide)) (by decide)
 · exact al (al (al (al (World.cell?_setCell_same _ _ _ (al (al (al (c3) (by decide)) (by decide)) (by decide))) (by decide)) (by decide)) (by decide)) (by decide)
 · exact al (al (al (World.cell?_setCell_same _ _ _ (al (al (al (al (c4) (by decide)) (by decide)) (by decide)) (by decide))) (by decide)) (by decide)) (by decide)
 · exact al (al (World.cell?_setCell_same _ _ _ (al (al (al (al (al (c5) (by decide)) (by decide)) (by decide)) (by decide)) (by decide))) (by decide)) (by decide)
 · exact al (World.cell?_setCell_same _ _ _ (al (al (al (al (al (al (c6) (by decide)) (by decide)) (by decide)) (by decide)) (by decide)) (by decide))) (by decide)
 · exact World.cell?_setCell_same _ _ _ (al (al (al (al (al (al (al (c7) (by decide)) (by decide)) (by decide)) (by decide)) (by decide)) (by decide)) (by decide))
 · simpa using f0
 · simpa using f1
 · simpa using f2
 · simpa using f3
 · simpa using f4
 · simpa using f5
 · simpa using f6
 · simpa using f7
theorem Ent.set_other{w:World}{b c o:Nat}{n t:ByteArray}{y mo d h mi s:Int}(k:Ent w b n y mo d h mi s t)(v:Value)(hc:b≠c):Ent (w.setCell ⟨c,o,none⟩ v) b n y mo d h mi s t:=by
 have e:(w.setCell ⟨c,o,none⟩ v).heap[b]?=w.heap[b]?:=a0I w ⟨c,o,none⟩ v b hc;obtain⟨⟨c0,c1,c2,c3,c4,c5,c6,c7⟩,⟨f0,f1,f2,f3,f4,f5,f6,f7⟩,hlt⟩:=k;refine⟨⟨?_,?_,?_,?_,?_,?_,?_,?_⟩,⟨?_,?_,?_,?_,?_,?_,?_,?_⟩,by simpa using hlt⟩
 · exact(World.cell?_of_block (w:=w) e).trans c0
 · exact(World.cell?_of_block (w:=w) e).trans c1
 · exact(World.cell?_of_block (w:=w) e).trans c2
 · exact(World.cell?_of_block (w:=w) e).trans c3
 · exact(World.cell?_of_block (w:=w) e).trans c4
 · exact(World.cell?_of_block (w:=w) e).trans c5
 · exact(World.cell?_of_block (w:=w) e).trans c6
 · exact(World.cell?_of_block (w:=w) e).trans c7
 · exact(World.frozen?_of_block (w:=w) e).trans f0
 · exact(World.frozen?_of_block (w:=w) e).trans f1
 · exact(World.frozen?_of_block (w:=w) e).trans f2
 · exact(World.frozen?_of_block (w:=w) e).trans f3
 · exact(World.frozen?_of_block (w:=w) e).trans f4
 · exact(World.frozen?_of_block (w:=w) e).trans f5
 · exact(World.frozen?_of_block (w:=w) e).trans f6
 · exact(World.frozen?_of_block (w:=w) e).trans f7
theorem kf{w w1:World}{n t:ByteArray}{y mo d h mi s:Int}{u:TypeId}(hb:Below (w.alloc (.cells #[.string n,.int .i64 y,.int .i64 mo,.int .i64 d,.int .i64 h,.int .i64 mi,.int .i64 s,.string t] u)).heap.size (w.alloc (.cells #[.string n,.int .i64 y,.int .i64 mo,.int .i64 d,.int .i64 h,.int .i64 mi,.int .i64 s,.string t] u)) w1):Ent w1 w.heap.size n y mo d h mi s t/\Below w.heap.size w w1:=
 ⟨(fC w n y mo d h mi s t u).later hb (by simp),((a0b _ _).alloc (a0a _) _).trans (hb.mono (by simp))⟩
def eZ(n:ByteArray)(y mo d h mi s:Int)(t:ByteArray):Bool:=gB n.data.toList&&(bL y mo d h mi s&&decide (t.size<=300))
theorem ee(n:ByteArray)(y mo d h mi s:Int)(t:ByteArray)(w:World)(hs:n.size<=1048576)(ht:(t.size:Int)<=9223372036854775807) :
  Calls Tryz.prog 13 #[.agg #[.string n,.int .i64 y,.int .i64 mo,.int .i64 d,.int .i64 h,.int .i64 mi,.int .i64 s,.string t]] w fun e w'=>e = .returned (.bool (eZ n y mo d h mi s t))/\Below w.heap.size w w':=by
 have HSZ:=af hs;clear hs;go_enter Tryz.func13,Tryz.ntmps13;go_wp2_with fail;refine(rH n _ (ae HSZ)).mono ?_;rintro e w1 ⟨rfl,hb1⟩;obtain⟨X1,B1⟩:=kf hb1;have HX:=af X1;have HB1:=af B1;clear hb1 X1 B1;obtain⟨⟨c0,c1,c2,c3,c4,c5,c6,c7⟩,_,hlt⟩:=ae HX;cases hk:gB n.data.toList
 ·
  have HP:Hid (eZ n y mo d h mi s t=false):=by simp[Hid,eZ,hk]
  go_wp2;go_ret;exact⟨ak (ae HP).symm,ae HB1⟩
 ·
  go_wp2_with fail;refine(pB y mo d h mi s _).mono ?_;rintro e w2 ⟨rfl,hb2⟩;have HX2:=af ((ae HX).later hb2 (ae HX).2.2);have HB2:=af (ag (ae HB1) hb2);clear hb2 HX HB1 c0 c1 c2 c3 c4 c5 c6 c7;obtain⟨⟨c0,c1,c2,c3,c4,c5,c6,c7⟩,_,_⟩:=ae HX2;cases ho:bL y mo d h mi s
  ·
   have HP:Hid (eZ n y mo d h mi s t=false):=by simp[Hid,eZ,hk,ho]
   go_wp2;go_ret;exact⟨ak (ae HP).symm,ae HB2⟩
  ·
   have HP:Hid (eZ n y mo d h mi s t=decide (t.size<=300)):=by simp[Hid,eZ,hk,ho]
   by_cases h3:(t.size:Int)<=300
   · go_wp2;go_ret;exact⟨ak (by rw[ae HP];simp;omega),ae HB2⟩
   · go_wp2;go_ret;exact⟨ak (by rw[ae HP];simp;omega),ae HB2⟩
theorem gm(n:ByteArray)(y mo d h mi s:Int)(t:ByteArray)(m:Int)(w:World)(hs:n.size<=1048576)(ht:(t.size:Int)<=9223372036854775807)(hm:w.cell? ⟨2,0,none⟩=some (.int .i64 m)) :
  Calls Tryz.prog 10 #[.agg #[.string n,.int .i64 y,.int .i64 mo,.int .i64 d,.int .i64 h,.int .i64 mi,.int .i64 s,.string t]] w fun e w'=>e = .returned (.bool (eZ n y mo d h mi s t))/\Below w.heap.size w w':=by
 have HSZ:=af hs;clear hs;have HM:Hid ((w.alloc (.cells #[.string n,.int .i64 y,.int .i64 mo,.int .i64 d,.int .i64 h,.int .i64 mi,.int .i64 s,.string t] 26)).cell? ⟨2,0,none⟩=some (.int .i64 m)):=by
  show _=_;rw[World.cell?_alloc_past _ _ _ (World.block_lt_of_cell? _ _ hm)];exact hm
 clear hm;go_enter Tryz.func10,Tryz.ntmps10;go_wp2_with fail;refine(qC n m _ (ae HSZ) (ae HM)).mono ?_;rintro e w1 ⟨rfl,hb1⟩;obtain⟨X1,B1⟩:=kf hb1;have HX:=af X1;have HB1:=af B1;clear hb1 X1 B1;obtain⟨⟨c0,c1,c2,c3,c4,c5,c6,c7⟩,_,hlt⟩:=ae HX;cases hk:gB n.data.toList
 ·
  have HP:Hid (eZ n y mo d h mi s t=false):=by simp[Hid,eZ,hk]
  go_wp2;go_ret;exact⟨ak (ae HP).symm,ae HB1⟩
 ·
  go_wp2_with fail;refine(cO y mo d h mi s _).mono ?_;rintro e w2 ⟨rfl,hb2⟩;have HX2:=af ((ae HX).later hb2 (ae HX).2.2);have HB2:=af (ag (ae HB1) hb2);clear hb2 HX HB1 c0 c1 c2 c3 c4 c5 c6 c7;obtain⟨⟨c0,c1,c2,c3,c4,c5,c6,c7⟩,_,_⟩:=ae HX2;cases ho:bL y mo d h mi s
  ·
   have HP:Hid (eZ n y mo d h mi s t=false):=by simp[Hid,eZ,hk,ho]
   go_wp2;go_ret;exact⟨ak (ae HP).symm,ae HB2⟩
  ·
   have HP:Hid (eZ n y mo d h mi s t=decide (t.size<=300)):=by simp[Hid,eZ,hk,ho]
   by_cases h3:(t.size:Int)<=300
   · go_wp2;go_ret;exact⟨ak (by rw[ae HP];simp;omega),ae HB2⟩
   · go_wp2;go_ret;exact⟨ak (by rw[ae HP];simp;omega),ae HB2⟩
def Blk(w:World)(b:Nat)(vs:List Value):Prop:=b<w.heap.size/\∀(i:Nat) (v:Value),vs[i]?=some v->w.cell? ⟨b,i,none⟩=some v/\w.frozen? ⟨b,i,none⟩=false
theorem Blk.cell{w:World}{b:Nat}{vs:List Value}(h:Blk w b vs)(i:Nat)(v:Value)(e:vs[i]?=some v):w.cell? ⟨b,i,none⟩=some v:=(h.2 i v e).1
theorem Blk.free{w:World}{b:Nat}{vs:List Value}(h:Blk w b vs)(i:Nat)(hi:i<vs.length):w.frozen? ⟨b,i,none⟩=false:=(h.2 i (vs[i]) (by simp[hi])).2
theorem Blk.later{w w':World}{b B:Nat}{vs:List Value}(h:Blk w b vs)(hb:Below B w w')(hB:b<B):Blk w' b vs:=
 ⟨a0g h.1 hb.size,fun i v e=>⟨(hb.cell (p:=⟨b,i,none⟩) hB).trans (h.2 i v e).1,(hb.frozen (p:=⟨b,i,none⟩) hB).trans (h.2 i v e).2⟩⟩
theorem Blk.drew{w:World}{b:Nat}{vs:List Value}(h:Blk w b vs):Blk w.drew b vs:=h
theorem Blk.set_other{w:World}{b c o:Nat}{vs:List Value}(h:Blk w b vs)(v:Value)(hc:b≠c):Blk (w.setCell ⟨c,o,none⟩ v) b vs:=by
 have e:(w.setCell ⟨c,o,none⟩ v).heap[b]?=w.heap[b]?:=a0I w ⟨c,o,none⟩ v b hc;exact⟨by simpa using h.1,fun i x ex=>⟨(World.cell?_of_block (w:=w) e).trans (h.2 i x ex).1,(World.frozen?_of_block (w:=w) e).trans (h.2 i x ex).2⟩⟩
theorem Blk.set{w:World}{b:Nat}{vs:List Value}(h:Blk w b vs)(o:Nat)(v:Value):Blk (w.setCell ⟨b,o,none⟩ v) b (vs.set o v):=by
 refine⟨by simpa using h.1,fun i x ex=>?_⟩;by_cases hi:o=i
 ·
  subst hi;rw[List.getElem?_set]at ex;by_cases hl:o<vs.length
  ·
   rw[a0d rfl,a0d hl]at ex;obtain rfl:v=x:=by simpa using ex
   have:=h.2 o vs[o] (by simp[hl]);exact⟨World.cell?_setCell_same _ _ _ this.1,by simpa using this.2⟩
  · rw[a0d rfl,a0e hl]at ex;cases ex
 · rw[List.getElem?_set_ne hi]at ex;have:=h.2 i x ex;exact⟨al this.1 hi,by simpa using this.2⟩
theorem az(w:World)(cs:Array Value)(u:TypeId):Blk (w.alloc (.cells cs u)) w.heap.size cs.toList:=by
 refine⟨by simp,fun i v e=>?_⟩;have e':cs[i]?=some v:=by simpa using e
 constructor
 · simp[e']
 · simp
theorem Blk.cells{w:World}{b:Nat}{vs:List Value}(h:Blk w b vs){n:Nat}(hn:vs.length=n):∀i,i<n->w.cell? ⟨b,i,none⟩=vs[i]?:=fun i hi=>by
 have e:vs[i]?=some (vs[i]'(by omega)):=List.getElem?_eq_getElem (by omega);rw[e];exact h.cell i _ e
theorem Blk.frees{w:World}{b:Nat}{vs:List Value}(h:Blk w b vs){n:Nat}(hn:vs.length=n):∀i,i<n->w.frozen? ⟨b,i,none⟩=false:=fun i hi=>h.free i (by omega)
theorem GW{b c:Nat}{W:World}{vs:List Value}(h:Blk W c vs)(hc:c≠b)(a0 a1 a2 a3 a4 a5 a6 a7:Value):Blk ((((((((W.setCell ⟨b,0,none⟩ a0).setCell ⟨b,1,none⟩ a1).setCell ⟨b,2,none⟩ a2).setCell ⟨b,3,none⟩ a3).setCell ⟨b,4,none⟩ a4).setCell ⟨b,5,none⟩ a5).setCell ⟨b,6,none⟩ a6).setCell ⟨b,7,none⟩ a7) c vs:=((((((((h.set_other a0 hc).set_other a1 hc).set_other a2 hc).set_other a3 hc).set_other a4 hc).set_other a5 hc).set_other a6 hc).set_other a7 hc)
theorem Blk.set6{b:Nat}{W:World}{x0 x1 x2 x3 x4 x5:Value}(h:Blk W b [x0,x1,x2,x3,x4,x5])(a0 a1 a2 a3 a4 a5:Value):Blk ((((((W.setCell ⟨b,0,none⟩ a0).setCell ⟨b,1,none⟩ a1).setCell ⟨b,2,none⟩ a2).setCell ⟨b,3,none⟩ a3).setCell ⟨b,4,none⟩ a4).setCell ⟨b,5,none⟩ a5) b [a0,a1,a2,a3,a4,a5]:=((((((h.set 0 a0).set 1 a1).set 2 a2).set 3 a3).set 4 a4).set 5 a5)
theorem Fe{B b:Nat}{w W:World}(hb:Below B w W)(hB:B<=b)(a0 a1 a2 a3 a4 a5 a6:Value):Below B w (((((((W.setCell ⟨b,0,none⟩ a0).setCell ⟨b,1,none⟩ a1).setCell ⟨b,2,none⟩ a2).setCell ⟨b,3,none⟩ a3).setCell ⟨b,4,none⟩ a4).setCell ⟨b,5,none⟩ a5).setCell ⟨b,6,none⟩ a6):=(ah (ah (ah (ah (ah (ah (ah hb hB a0) hB a1) hB a2) hB a3) hB a4) hB a5) hB a6)
theorem Blk.set7{b:Nat}{W:World}{x0 x1 x2 x3 x4 x5 x6:Value}(h:Blk W b [x0,x1,x2,x3,x4,x5,x6])(a0 a1 a2 a3 a4 a5 a6:Value):Blk (((((((W.setCell ⟨b,0,none⟩ a0).setCell ⟨b,1,none⟩ a1).setCell ⟨b,2,none⟩ a2).setCell ⟨b,3,none⟩ a3).setCell ⟨b,4,none⟩ a4).setCell ⟨b,5,none⟩ a5).setCell ⟨b,6,none⟩ a6) b [a0,a1,a2,a3,a4,a5,a6]:=(((((((h.set 0 a0).set 1 a1).set 2 a2).set 3 a3).set 4 a4).set 5 a5).set 6 a6)
theorem GV{b c:Nat}{W:World}{vs:List Value}(h:Blk W c vs)(hc:c≠b)(a0 a1 a2 a3 a4 a5 a6:Value):Blk (((((((W.setCell ⟨b,0,none⟩ a0).setCell ⟨b,1,none⟩ a1).setCell ⟨b,2,none⟩ a2).setCell ⟨b,3,none⟩ a3).setCell ⟨b,4,none⟩ a4).setCell ⟨b,5,none⟩ a5).setCell ⟨b,6,none⟩ a6) c vs:=(((((((h.set_other a0 hc).set_other a1 hc).set_other a2 hc).set_other a3 hc).set_other a4 hc).set_other a5 hc).set_other a6 hc)
theorem Ff{B b:Nat}{w W:World}(hb:Below B w W)(hB:B<=b)(a0 a1 a2 a3 a4 a5 a6 a7:Value):Below B w ((((((((W.setCell ⟨b,0,none⟩ a0).setCell ⟨b,1,none⟩ a1).setCell ⟨b,2,none⟩ a2).setCell ⟨b,3,none⟩ a3).setCell ⟨b,4,none⟩ a4).setCell ⟨b,5,none⟩ a5).setCell ⟨b,6,none⟩ a6).setCell ⟨b,7,none⟩ a7):=(ah (ah (ah (ah (ah (ah (ah (ah hb hB a0) hB a1) hB a2) hB a3) hB a4) hB a5) hB a6) hB a7)
theorem Blk.set8{b:Nat}{W:World}{x0 x1 x2 x3 x4 x5 x6 x7:Value}(h:Blk W b [x0,x1,x2,x3,x4,x5,x6,x7])(a0 a1 a2 a3 a4 a5 a6 a7:Value):Blk ((((((((W.setCell ⟨b,0,none⟩ a0).setCell ⟨b,1,none⟩ a1).setCell ⟨b,2,none⟩ a2).setCell ⟨b,3,none⟩ a3).setCell ⟨b,4,none⟩ a4).setCell ⟨b,5,none⟩ a5).setCell ⟨b,6,none⟩ a6).setCell ⟨b,7,none⟩ a7) b [a0,a1,a2,a3,a4,a5,a6,a7]:=((((((((h.set 0 a0).set 1 a1).set 2 a2).set 3 a3).set 4 a4).set 5 a5).set 6 a6).set 7 a7)
theorem Ent.kn{w w':World}{b c:Nat}{n t:ByteArray}{y mo d h mi s:Int}(k:Ent w c n y mo d h mi s t)(hk:Kn b w w')(hc:c≠b):Ent w' c n y mo d h mi s t:=by
 obtain⟨⟨c0,c1,c2,c3,c4,c5,c6,c7⟩,⟨f0,f1,f2,f3,f4,f5,f6,f7⟩,hlt⟩:=k;have e:=hk.2.1 c hlt hc;refine⟨⟨?_,?_,?_,?_,?_,?_,?_,?_⟩,⟨?_,?_,?_,?_,?_,?_,?_,?_⟩,a0g hlt hk.2.2⟩
 · exact(World.cell?_of_block (w:=w) e).trans c0
 · exact(World.cell?_of_block (w:=w) e).trans c1
 · exact(World.cell?_of_block (w:=w) e).trans c2
 · exact(World.cell?_of_block (w:=w) e).trans c3
 · exact(World.cell?_of_block (w:=w) e).trans c4
 · exact(World.cell?_of_block (w:=w) e).trans c5
 · exact(World.cell?_of_block (w:=w) e).trans c6
 · exact(World.cell?_of_block (w:=w) e).trans c7
 · exact(World.frozen?_of_block (w:=w) e).trans f0
 · exact(World.frozen?_of_block (w:=w) e).trans f1
 · exact(World.frozen?_of_block (w:=w) e).trans f2
 · exact(World.frozen?_of_block (w:=w) e).trans f3
 · exact(World.frozen?_of_block (w:=w) e).trans f4
 · exact(World.frozen?_of_block (w:=w) e).trans f5
 · exact(World.frozen?_of_block (w:=w) e).trans f6
 · exact(World.frozen?_of_block (w:=w) e).trans f7
theorem dU{b c o:Nat}{a w:World}(h:Kn b a w)(v:Value)(hc:a.heap.size<=c)(hb:b<a.heap.size):Kn b a (w.setCell ⟨c,o,none⟩ v):=
 ⟨ah h.1 (a0D (a0u hb) hc) _,fun k hk hkb=>(a0I w ⟨c,o,none⟩ v k (by show k≠c;omega)).trans (h.2.1 k hk hkb),by simpa using h.2.2⟩
theorem cY{w:World}{B b m c o:Nat}(h:Rd w B b m)(v:Value)(hc:b<c):Rd (w.setCell ⟨c,o,none⟩ v) B b m:=
 h.kept (ah (a0b _ _) (by omega) _)
theorem kv{b c:Nat}{a w:World}(h:Kn b a w)(hc:a.heap.size<=c)(hb:b<a.heap.size)(v0 v1 v2 v3 v4 v5 v6 v7:Value):Kn b a ((((((((w.setCell ⟨c,0,none⟩ v0).setCell ⟨c,1,none⟩ v1).setCell ⟨c,2,none⟩ v2).setCell ⟨c,3,none⟩ v3).setCell ⟨c,4,none⟩ v4).setCell ⟨c,5,none⟩ v5).setCell ⟨c,6,none⟩ v6).setCell ⟨c,7,none⟩ v7):=
 (dU (dU (dU (dU (dU (dU (dU (dU h _ hc hb) _ hc hb) _ hc hb) _ hc hb) _ hc hb) _ hc hb) _ hc hb) _ hc hb)
theorem kI{w:World}{B b m c:Nat}(h:Rd w B b m)(hc:b<c)(v0 v1 v2 v3 v4 v5 v6 v7:Value):Rd ((((((((w.setCell ⟨c,0,none⟩ v0).setCell ⟨c,1,none⟩ v1).setCell ⟨c,2,none⟩ v2).setCell ⟨c,3,none⟩ v3).setCell ⟨c,4,none⟩ v4).setCell ⟨c,5,none⟩ v5).setCell ⟨c,6,none⟩ v6).setCell ⟨c,7,none⟩ v7) B b m:=
 (cY (cY (cY (cY (cY (cY (cY (cY h _ hc) _ hc) _ hc) _ hc) _ hc) _ hc) _ hc) _ hc)
theorem m8{b:Nat}{w w':World}(h:Kb b w w'):Kn b w w':=h
theorem uS{v:ByteArray}(h:v∈fT++cU):v.size<=100:=by
 simp only[fT,cU,a08,a0R,a04,a2d,a1Y]at h;rcases h with rfl|rfl|rfl|rfl|rfl|rfl|rfl|rfl|rfl|rfl|rfl|rfl|rfl|rfl|rfl|rfl<;>decide
theorem lQ(B b m:Nat)(w:World)(h:Rd w B b m)(hm:m<=70000) :
  Calls Tryz.prog 43 #[.pointer (some ⟨b,0,none⟩)] w fun e w'=>∃n y mo d h mi s t,e = .returned (.agg #[.string n,.int .i64 y,.int .i64 mo,.int .i64 d,.int .i64 h,.int .i64 mi,.int .i64 s,.string t])/\(n∈cU/\t.size<=400)/\Rd w' B b (m+57)/\Kn b w w':=by
 have hlt:=h.lt;have K0:=af (dZ w (.cells #[.string ⟨#[]⟩,.int .i64 0,.int .i64 0,.int .i64 0,.int .i64 0,.int .i64 0,.int .i64 0,.string ⟨#[]⟩] 26) hlt);have X0:=af (fC w ⟨#[]⟩ 0 0 0 0 0 0 ⟨#[]⟩ 26);have R0:=af (h.alloc (.cells #[.string ⟨#[]⟩,.int .i64 0,.int .i64 0,.int .i64 0,.int .i64 0,.int .i64 0,.int .i64 0,.string ⟨#[]⟩] 26));have HNE:=af (show w.heap.size≠b by omega);have HLT:=af hlt;have HM:=af hm;clear h hlt hm;go_enter Tryz.func43,Tryz.ntmps43;go_wp2_with fail;refine(oQ B b m _ (ae R0) (by have:=ae HM;omega)).mono ?_;rintro e w1 ⟨n,hn,rfl,r1,k1⟩;have HN:=af hn;have K1:=af ((ae K0).trans k1);have X1:=af ((ae X0).kn k1 (ae HNE));have R1:=af r1;clear K0 X0 R0 k1 r1 hn;go_wp2_with fail;refine(na B b _ _ (ae R1) (by have:=ae HM;omega)).mono ?_;rintro e w2 ⟨y,mo,d,h,mi,s,rfl,ds,r2,k2⟩;have K2:=af ((ae K1).trans (m8 k2));have X2:=af ((ae X1).kn (m8 k2) (ae HNE));have R2:=af r2;clear K1 X1 R1 k2 r2 ds;go_wp2_with fail;refine(nb B b _ _ (ae R2) (by have:=ae HM;omega)).mono ?_;rintro e w3 ⟨⟨t,rfl,ht⟩,r3,k3⟩;have HT:=af ht;have K3:=af ((ae K2).trans k3);have X3:=af ((ae X2).kn k3 (ae HNE));have R3:=af r3;clear K2 X2 R2 k3 r3 ht;have HZ:=af ((ae X3).store n y mo d h mi s t);obtain⟨⟨c0,c1,c2,c3,c4,c5,c6,c7⟩,⟨f0,f1,f2,f3,f4,f5,f6,f7⟩,hl3⟩:=ae X3;clear X3;go_wp2;obtain⟨⟨z0,z1,z2,z3,z4,z5,z6,z7⟩,_,_⟩:=ae HZ;refine a0w (v:=.agg #[.string n,.int .i64 y,.int .i64 mo,.int .i64 d,.int .i64 h,.int .i64 mi,.int .i64 s,.string t]) (by simp[results,Tryz.results43,go_sem,z0,z1,z2,z3,z4,z5,z6,z7]) rfl ⟨n,y,mo,d,h,mi,s,t,rfl,⟨ae HN,ae HT⟩,?_,?_⟩
 · exact kI (ae R3) (ae HLT) _ _ _ _ _ _ _ _
 · exact kv (ae K3) (a0a _) (ae HLT) _ _ _ _ _ _ _ _
theorem jc(B b m:Nat)(w:World)(h:Rd w B b m)(hm:m<=60000) :
  Calls Tryz.prog 22 #[.pointer (some ⟨b,0,none⟩)] w fun e w'=>∃n y mo d h mi s t,e = .returned (.agg #[.string n,.int .i64 y,.int .i64 mo,.int .i64 d,.int .i64 h,.int .i64 mi,.int .i64 s,.string t])/\(n∈fT++cU/\t.size<=400)/\Rd w' B b (m+120)/\Kn b w w':=by
 have hlt:=h.lt;have K0:=af (dZ w (.cells #[.string ⟨#[]⟩,.int .i64 0,.int .i64 0,.int .i64 0,.int .i64 0,.int .i64 0,.int .i64 0,.string ⟨#[]⟩] 26) hlt);have X0:=af (fC w ⟨#[]⟩ 0 0 0 0 0 0 ⟨#[]⟩ 26);have R0:=af (h.alloc (.cells #[.string ⟨#[]⟩,.int .i64 0,.int .i64 0,.int .i64 0,.int .i64 0,.int .i64 0,.int .i64 0,.string ⟨#[]⟩] 26));have HNE:=af (show w.heap.size≠b by omega);have HLT:=af hlt;have HM:=af hm;clear h hlt hm;go_enter Tryz.func22,Tryz.ntmps22;go_wp2_with fail;refine(lQ B b m _ (ae R0) (by have:=ae HM;omega)).mono ?_;rintro e w1 ⟨n,y,mo,d,h,mi,s,t,rfl,⟨hn,ht⟩,r1,k1⟩;have HN:Hid (n∈fT++cU):=a0S.2 (.inr hn);have HT:=af ht;have K1:=af ((ae K0).trans k1);have X1:=af ((ae X0).kn k1 (ae HNE));have hb1:=r1.lt;have hs1:=(ae X1).2.2;have hne1:¬ w1.heap.size=w.heap.size:=by omega
 have hne2:¬ w.heap.size=w1.heap.size:=by omega
 have HNB:=af (show w1.heap.size≠b by omega);have HLE:=af (show w.heap.size<=w1.heap.size by omega);have A1:=af (fC w1 n y mo d h mi s t 26);have KA:=af (dZ w1 (.cells #[.string n,.int .i64 y,.int .i64 mo,.int .i64 d,.int .i64 h,.int .i64 mi,.int .i64 s,.string t] 26) hb1);have RA:=af (r1.alloc (.cells #[.string n,.int .i64 y,.int .i64 mo,.int .i64 d,.int .i64 h,.int .i64 mi,.int .i64 s,.string t] 26));clear K0 X0 R0 k1 r1 hn ht hb1 hs1;go_wp2_with fail;refine(br B b _ 10 _ (ae RA) (by have:=ae HM;omega) (by omega) (by omega)).mono ?_;rintro e w2 ⟨r,rfl,r0,r1,rr,k2⟩;have K2:=af (((ae K1).trans (ae KA)).trans k2.kn);have X2:=af (((ae X1).kn (ae KA) (ae HNE)).kn k2.kn (ae HNE));have A2:=af ((ae A1).kn k2.kn (ae HNB));have R2:=af rr;clear K1 X1 A1 KA RA k2 rr;by_cases q0:r=0
 ·
  subst q0;go_wp2_with fail;refine(qN B b _ _ (ae R2) (by have:=ae HM;omega)).mono ?_;rintro e w3 ⟨v,hv,rfl,r3,k3⟩;have HV:=af hv;clear hv;have K3:=af ((ae K2).trans k3);have X3:=af ((ae X2).kn k3 (ae HNE));have A3:=af ((ae A2).kn k3 (ae HNB));have R3:=af r3;clear K2 X2 A2 R2 k3 r3;have HZ:=af (Ent.store ((ae X3).set_other (c:=w1.heap.size) (o:=0) (.string v) hne2) v y mo d h mi s t);obtain⟨⟨c0,c1,c2,c3,c4,c5,c6,c7⟩,⟨f0,f1,f2,f3,f4,f5,f6,f7⟩,hl3⟩:=ae X3;obtain⟨⟨a0,a1,a2,a3,a4,a5,a6,a7⟩,⟨g0,g1,g2,g3,g4,g5,g6,g7⟩,hm3⟩:=ae A3;clear X3 A3;go_wp2;obtain⟨⟨z0,z1,z2,z3,z4,z5,z6,z7⟩,_,_⟩:=ae HZ;refine a0w (v:=.agg #[.string v,.int .i64 y,.int .i64 mo,.int .i64 d,.int .i64 h,.int .i64 mi,.int .i64 s,.string t]) (by simp[results,a3w,go_sem,z0,z1,z2,z3,z4,z5,z6,z7]) rfl ⟨v,y,mo,d,h,mi,s,t,rfl,⟨ae HV,ae HT⟩,?_,?_⟩
  · exact kI (cY ((ae R3).mono (by omega)) _ (a0g (ae HLT) (ae HLE))) (ae HLT) _ _ _ _ _ _ _ _
  · exact kv (dU (ae K3) _ (ae HLE) (ae HLT)) (a0a _) (ae HLT) _ _ _ _ _ _ _ _
 ·
  skip
  by_cases q1:r=1
  ·
   subst q1;go_wp2_with fail;refine(pu B b _ _ (ae R2) (by have:=ae HM;omega)).mono ?_;rintro e w3 ⟨y',mo',d',h',mi',s',rfl,ds,r3,k3'⟩;have k3:=m8 k3';clear ds k3';have K3:=af ((ae K2).trans k3);have X3:=af ((ae X2).kn k3 (ae HNE));have A3:=af ((ae A2).kn k3 (ae HNB));have R3:=af r3;clear K2 X2 A2 R2 k3 r3;have HZ:=af (Ent.store (((((((ae X3).set_other (c:=w1.heap.size) (o:=1) (.int .i64 y') hne2).set_other (c:=w1.heap.size) (o:=2) (.int .i64 mo') hne2).set_other (c:=w1.heap.size) (o:=3) (.int .i64 d') hne2).set_other (c:=w1.heap.size) (o:=4) (.int .i64 h') hne2).set_other (c:=w1.heap.size) (o:=5) (.int .i64 mi') hne2).set_other (c:=w1.heap.size) (o:=6) (.int .i64 s') hne2) n y' mo' d' h' mi' s' t);obtain⟨⟨c0,c1,c2,c3,c4,c5,c6,c7⟩,⟨f0,f1,f2,f3,f4,f5,f6,f7⟩,hl3⟩:=ae X3;obtain⟨⟨a0,a1,a2,a3,a4,a5,a6,a7⟩,⟨g0,g1,g2,g3,g4,g5,g6,g7⟩,hm3⟩:=ae A3;clear X3 A3;go_wp2;obtain⟨⟨z0,z1,z2,z3,z4,z5,z6,z7⟩,_,_⟩:=ae HZ;refine a0w (v:=.agg #[.string n,.int .i64 y',.int .i64 mo',.int .i64 d',.int .i64 h',.int .i64 mi',.int .i64 s',.string t]) (by simp[results,a3w,go_sem,z0,z1,z2,z3,z4,z5,z6,z7]) rfl ⟨n,y',mo',d',h',mi',s',t,rfl,⟨ae HN,ae HT⟩,?_,?_⟩
   · exact kI (cY (cY (cY (cY (cY (cY ((ae R3).mono (by omega)) _ (a0g (ae HLT) (ae HLE))) _ (a0g (ae HLT) (ae HLE))) _ (a0g (ae HLT) (ae HLE))) _ (a0g (ae HLT) (ae HLE))) _ (a0g (ae HLT) (ae HLE))) _ (a0g (ae HLT) (ae HLE))) (ae HLT) _ _ _ _ _ _ _ _
   · exact kv (dU (dU (dU (dU (dU (dU (ae K3) _ (ae HLE) (ae HLT)) _ (ae HLE) (ae HLT)) _ (ae HLE) (ae HLT)) _ (ae HLE) (ae HLT)) _ (ae HLE) (ae HLT)) _ (ae HLE) (ae HLT)) (a0a _) (ae HLT) _ _ _ _ _ _ _ _
  ·
   skip
   by_cases q2:r=2
   ·
    subst q2;go_wp2_with fail;refine(pw B b _ _ (ae R2) (by have:=ae HM;omega)).mono ?_;rintro e w3 ⟨⟨v,rfl,hv⟩,r3,k3⟩;have HV:=af hv;clear hv;have K3:=af ((ae K2).trans k3);have X3:=af ((ae X2).kn k3 (ae HNE));have A3:=af ((ae A2).kn k3 (ae HNB));have R3:=af r3;clear K2 X2 A2 R2 k3 r3;have HZ:=af (Ent.store ((ae X3).set_other (c:=w1.heap.size) (o:=7) (.string v) hne2) n y mo d h mi s v);obtain⟨⟨c0,c1,c2,c3,c4,c5,c6,c7⟩,⟨f0,f1,f2,f3,f4,f5,f6,f7⟩,hl3⟩:=ae X3;obtain⟨⟨a0,a1,a2,a3,a4,a5,a6,a7⟩,⟨g0,g1,g2,g3,g4,g5,g6,g7⟩,hm3⟩:=ae A3;clear X3 A3;go_wp2;obtain⟨⟨z0,z1,z2,z3,z4,z5,z6,z7⟩,_,_⟩:=ae HZ;refine a0w (v:=.agg #[.string n,.int .i64 y,.int .i64 mo,.int .i64 d,.int .i64 h,.int .i64 mi,.int .i64 s,.string v]) (by simp[results,a3w,go_sem,z0,z1,z2,z3,z4,z5,z6,z7]) rfl ⟨n,y,mo,d,h,mi,s,v,rfl,⟨ae HN,ae HV⟩,?_,?_⟩
    · exact kI (cY ((ae R3).mono (by omega)) _ (a0g (ae HLT) (ae HLE))) (ae HLT) _ _ _ _ _ _ _ _
    · exact kv (dU (ae K3) _ (ae HLE) (ae HLT)) (a0a _) (ae HLT) _ _ _ _ _ _ _ _
   ·
    skip
    have K3:=K2;have X3:=X2;have A3:=A2;have R3:=R2;clear K2 X2 A2 R2;have HZ:=af (Ent.store (ae X3) n y mo d h mi s t);obtain⟨⟨c0,c1,c2,c3,c4,c5,c6,c7⟩,⟨f0,f1,f2,f3,f4,f5,f6,f7⟩,hl3⟩:=ae X3;obtain⟨⟨a0,a1,a2,a3,a4,a5,a6,a7⟩,⟨g0,g1,g2,g3,g4,g5,g6,g7⟩,hm3⟩:=ae A3;clear X3 A3;go_wp2;obtain⟨⟨z0,z1,z2,z3,z4,z5,z6,z7⟩,_,_⟩:=ae HZ;refine a0w (v:=.agg #[.string n,.int .i64 y,.int .i64 mo,.int .i64 d,.int .i64 h,.int .i64 mi,.int .i64 s,.string t]) (by simp[results,a3w,go_sem,z0,z1,z2,z3,z4,z5,z6,z7]) rfl ⟨n,y,mo,d,h,mi,s,t,rfl,⟨ae HN,ae HT⟩,?_,?_⟩
    · exact kI ((ae R3).mono (by omega)) (ae HLT) _ _ _ _ _ _ _ _
    · exact kv (ae K3) (a0a _) (ae HLT) _ _ _ _ _ _ _ _
theorem pt(B b m:Nat)(w:World)(h:Rd w B b m)(hm:m<=60000) :
  Calls Tryz.prog 22 #[.pointer (some ⟨b,0,none⟩)] w fun e w'=>∃n y mo d h mi s t,e = .returned (.agg #[.string n,.int .i64 y,.int .i64 mo,.int .i64 d,.int .i64 h,.int .i64 mi,.int .i64 s,.string t])/\(n.size<=100/\t.size<=400)/\Rd w' B b (m+120)/\Kn b w w':=by
 refine(jc B b m w h hm).mono ?_;rintro e w' ⟨n,y,mo,d,h,mi,s,t,he,hd,r⟩;exact⟨n,y,mo,d,h,mi,s,t,he,⟨uS hd.1,hd.2⟩,r⟩
theorem pm(a:Option Addr)(len cap:Nat)(z:Nat->Int)(w:World)(h:Src w a len z)(hc:len<=cap)(hm:len<=maxLen) :
  Calls Tryz.prog 9 #[.slice a len cap] w fun e w'=>∃n y mo d h mi s t,e = .returned (.agg #[.string n,.int .i64 y,.int .i64 mo,.int .i64 d,.int .i64 h,.int .i64 mi,.int .i64 s,.string t])/\(n.size<=100/\t.size<=400)/\Below w.heap.size w w':=by
 have X0:=af (fC w ⟨#[]⟩ 0 0 0 0 0 0 ⟨#[]⟩ 26);have B0:=af ((a0b w.heap.size w).alloc (a0a _) (.cells #[.string ⟨#[]⟩,.int .i64 0,.int .i64 0,.int .i64 0,.int .i64 0,.int .i64 0,.int .i64 0,.string ⟨#[]⟩] 26));have hs:=af (h.later (ae B0));clear h;go_enter Tryz.func9,Tryz.ntmps9;go_wp2_with fail;refine(qO a len cap z _ (ae hs) hc hm).mono ?_;rintro e w1 ⟨rfl,hrd,hbel,hsz⟩;have hsz0:(w.alloc (.cells #[.string ⟨#[]⟩,.int .i64 0,.int .i64 0,.int .i64 0,.int .i64 0,.int .i64 0,.int .i64 0,.string ⟨#[]⟩] 26)).heap.size=w.heap.size+1:=by simp
 have X1:=af ((ae X0).later hbel (by simp));have B1:=af ((ae B0).trans (hbel.mono (by simp)));rw[hsz0]at hrd;have R1:=af hrd;have HLT:=af (a0l w.heap.size);clear hrd hbel hsz X0 B0 hs hsz0;go_wp2_with fail;refine(pt (w.heap.size+1) (w.heap.size+1) 0 _ (ae R1) (by omega)).mono ?_;rintro e w2 ⟨n,y,mo,d,h,mi,s,t,rfl,hd,rr,k2⟩;have X2:=af ((ae X1).kn k2 (a1L (ae HLT)));have B2:=af ((ae B1).trans (k2.1.mono (a0u (ae HLT))));have HD:=af hd;clear rr k2 X1 B1 hd R1;have HZ:=af ((ae X2).store n y mo d h mi s t);obtain⟨⟨c0,c1,c2,c3,c4,c5,c6,c7⟩,⟨f0,f1,f2,f3,f4,f5,f6,f7⟩,hl3⟩:=ae X2;clear X2;go_wp2;obtain⟨⟨z0,z1,z2,z3,z4,z5,z6,z7⟩,_,_⟩:=ae HZ;refine a0w (v:=.agg #[.string n,.int .i64 y,.int .i64 mo,.int .i64 d,.int .i64 h,.int .i64 mi,.int .i64 s,.string t]) (by simp[results,Tryz.results9,go_sem,z0,z1,z2,z3,z4,z5,z6,z7]) rfl ⟨n,y,mo,d,h,mi,s,t,rfl,ae HD,?_⟩;exact(ah (ah (ah (ah (ah (ah (ah (ah (ae B2) (a0a _) _) (a0a _) _) (a0a _) _) (a0a _) _) (a0a _) _) (a0a _) _) (a0a _) _) (a0a _) _)
end Go.Proofs.YtfhdadkcophoaaaGreatDoor
