/- Of what the proof is made: 3 texts, one behind the other. -/
import Derived.Test.YtfhdadkcophoaaaGreatDoorM23
import Derived.Test.YtfhdadkcophoaaaGreatDoorM29
set_option linter.unusedSimpArgs false
set_option linter.unusedVariables false
set_option maxHeartbeats 4000000
namespace Go.Proofs.YtfhdadkcophoaaaGreatDoor
open Go.RowKit
def fe(e:En):Bool:=eZ e.n e.y e.mo e.d e.h e.mi e.s e.t
def oJ(l:List En)(i:Nat):Bool:=(List.range l.length).all fun k=>!dQ (l.getD i default).n.data.toList (l.getD k default).n.data.toList
def rl(l:List En)(i:Nat):Bool:=fe (l.getD i default)&&(decide (atN l (l.getD i default).n=(i:Int))&&oJ l i)
def aY(l:List En):Bool:=(List.range l.length).all (rl l)&&decide (l.length<=6)
theorem Mb{l:List En}{i:Nat}(hi:i<l.length)(h:rl l i=false):aY l=false:=by
 have:(List.range l.length).all (rl l)=false:=by
  rw[a3r];exact⟨i,List.mem_range.2 hi,by simp[h]⟩
 simp[aY,this]
theorem BM{l:List En}(h:∀i,i<l.length->rl l i=true):aY l=decide (l.length<=6):=by
 have:(List.range l.length).all (rl l)=true:=by
  rw[a0Y];exact fun i hi=>h i (List.mem_range.1 hi)
 simp[aY,this]
theorem JM{l:List En}{i k:Nat}(hk:k<l.length)(h:dQ (l.getD i default).n.data.toList (l.getD k default).n.data.toList=true):oJ l i=false:=by
 unfold oJ;rw[a3r];exact⟨k,List.mem_range.2 hk,by rw[h];decide⟩
theorem wt{l:List En}{i:Nat}(h:∀k,k<l.length->dQ (l.getD i default).n.data.toList (l.getD k default).n.data.toList=false):oJ l i=true:=by
 unfold oJ;rw[a0Y];exact fun k hk=>by rw[h k (List.mem_range.1 hk)];rfl
theorem fV(a:Option Addr)(cap:Nat)(l:List En)(n:Nat)(hn:l.length=n)(w:World)(h:gT w a l)(hl:(n:Int)<=1048576)
  (hs:∀i,i<n->(l.getD i default).n.size<=1048576/\((l.getD i default).t.size:Int)<=9223372036854775807) :
  Calls Tryz.prog 18 #[.slice a n cap] w fun e w'=>e = .returned (.bool (aY l))/\Below w.heap.size w w':=by
 have HS:=af hs;have HR:=af h;have HZN:=af (fun i (hi:i<l.length)=>@Mb l i hi);have HZY:=af (@BM l);have HFN:=af (fun i k (hk:k<l.length)=>@JM l i k hk);have HFY:=af (fun i=>@wt l i);rw[hn]at HZN HZY HFN HFY;have HN:=af hn;clear h hs hn;go_enter Tryz.func18,Tryz.ntmps18;go_wp2_with fail
 go_loopw [3,4] (fun i _ wr=>∃k:Nat,k<=n/\i = .int .i64 k/\(∀j,j<k->rl l j=true)/\Below w.heap.size w wr) (fun i _ _=>n-(intOf i).toNat)
 case atStart=>exact⟨0,a0h _,rfl,fun j hj=>absurd hj (by omega),a0b _ _⟩
 case round=>
  obtain⟨k,hk,rfl,hall,hbel⟩:=hrel;have HALL:=af hall;have HBel:=af hbel;clear hall hbel;by_cases hkn:k<n
  ·
   have hkI:(k:Int)<(n:Int):=by omega
   have RW:=af ((ae HR).later (ae HBel));obtain⟨g,o,rfl,hg,hc⟩:=ae RW (by have:=ae HN;omega);obtain⟨c0,c1,c2,c3,c4,c5,c6,c7⟩:=hc k (by have:=ae HN;omega);have HKN:=af hkn;have HSk:=af (ae HS k hkn);have HZk:=af (ae HZN k hkn);have HOne:Hid (rl l k=(fe (l.getD k default)&&(decide (atN l (l.getD k default).n=(k:Int))&&oJ l k))):=rfl;have HNX:Hid (rl l k=true->∀j,j<k+1->rl l j=true):=by
    intro e j hj;by_cases hjk:j=k
    · rw[hjk];exact e
    · exact ae HALL j (by omega)
   have HFNk:=af (ae HFN k);have HFYk:=af (ae HFY k);have hsz:((l.getD k default).n.size:Int)<=1048576:=by have:=(ae HSk).1;omega
   have HEnt:=af (fun W=>ee (l.getD k default).n (l.getD k default).y (l.getD k default).mo (l.getD k default).d (l.getD k default).h (l.getD k default).mi (l.getD k default).s (l.getD k default).t W (ae HSk).1 (ae HSk).2);have HAt:=af (fun W hW=>Gn (some ⟨g,o,none⟩) cap l n (ae HN) (l.getD k default).n W hW hl);have HUn:=af (fun j (hj:j<n) W=>kx (l.getD k default).n (l.getD j default).n W hsz (by have:=(ae HS j hj).1;omega));have HNm:Hid (∀W,Below w.heap.size w W->∀j,j<n->W.cell? ⟨g,o+j*8,none⟩=some (.string (l.getD j default).n)):=by
    intro W hW j hj;obtain⟨g',o',e',_,hc'⟩:=(ae HR).later hW (by have:=ae HN;omega);simp only[a0k,a0v,a0M]at e';obtain⟨rfl,rfl⟩:=e';exact(hc' j (by have:=ae HN;omega)).1
   have HE0:Hid (fe (l.getD k default)=eZ (l.getD k default).n (l.getD k default).y (l.getD k default).mo (l.getD k default).d (l.getD k default).h (l.getD k default).mi (l.getD k default).s (l.getD k default).t):=rfl;clear hc hk HALL hkn;generalize fe (l.getD k default)=be at *
   go_wp2_with fail;refine(ae HEnt _).mono ?_;rintro e z1 ⟨rfl,hz1⟩;rw[←ae HE0];have BZ1:=af (ag (ae HBel) hz1);have hc0:=ae HNm _ (ae BZ1) k (ae HKN);clear hz1 c0 c1 c2 c3 c4 c5 c6 c7 HE0 HEnt;cases be
   · have HP:=af (ae HZk (by rw[ae HOne];rfl));go_wp2;go_ret;exact⟨ak (ae HP).symm,ae BZ1⟩
   ·
    go_wp2_with fail;refine(ae HAt _ ((ae HR).later (ae BZ1))).mono ?_;rintro e z2 ⟨rfl,hz2⟩;rw[hz2];clear hz2;generalize atN l (l.getD k default).n=A at *
    by_cases hA:A=(k:Int)
    ·
     subst hA;go_wp2_with fail
     go_loopw [4] (fun q wr=>∃m:Nat,m<=n/\q = .int .i64 m/\(∀j,j<m->dQ (l.getD k default).n.data.toList (l.getD j default).n.data.toList=false)/\Below w.heap.size w wr) (fun q _=>n-(intOf q).toNat)
     case atStart=>exact⟨0,a0h _,rfl,fun j hj=>absurd hj (by omega),ae BZ1⟩
     case round=>
      obtain⟨m,hm,rfl,hfr,hbel⟩:=hrel;have HFR:=af hfr;have HB2:=af hbel;clear hfr hbel hc0;by_cases hmn:m<n
      ·
       have hmI:(m:Int)<(n:Int):=by omega
       have d0:=ae HNm _ (ae HB2) k (ae HKN);have d1:=ae HNm _ (ae HB2) m hmn;have HU1:=af (ae HUn m hmn);have HFm:=af (ae HFNk m hmn);have HMN:=af hmn;have HFX:Hid (dQ (l.getD k default).n.data.toList (l.getD m default).n.data.toList=false->∀j,j<m+1->dQ (l.getD k default).n.data.toList (l.getD j default).n.data.toList=false):=by
        intro e j hj;by_cases hjm:j=m
        · rw[hjm];exact e
        · exact ae HFR j (by omega)
       clear hm HFR;generalize dQ (l.getD k default).n.data.toList (l.getD m default).n.data.toList=u at *
       cases u
       ·
        have HX:=af (ae HFX rfl);go_wp2_with fail
        go_quiet ((go_at_call 40;exact a03 (ae HU1 _)))
        go_wp2;go_roundw
        case rel=>exact⟨m+1,by have:=ae HMN;omega,by go_num,ae HX,below_drewN (ae HB2) _⟩
        case measure=>have:=ae HMN;simp[intOf];omega
       ·
        have HP:=af (ae HZk (by rw[ae HOne,ae HFm rfl];simp));go_wp2_with fail
        go_quiet ((go_at_call 40;exact a03 (ae HU1 _)))
        go_wp2;go_ret;exact⟨ak (ae HP).symm,below_drewN (ae HB2) _⟩
      ·
       obtain rfl:m=n:=by omega
       have HX:=af (ae HNX (by rw[ae HOne,ae HFYk (ae HFR)];simp));go_wp2;go_roundw
       case rel=>exact⟨k+1,by have:=ae HKN;omega,by go_num,ae HX,ae HB2⟩
       case measure=>have:=ae HKN;simp[intOf];omega
    ·
     have HP:=af (ae HZk (by rw[ae HOne];simp[hA]));have hA':(A == (k:Int))=false:=by simp[hA]
     go_wp2;go_ret;exact⟨ak (ae HP).symm,ae BZ1⟩
  ·
   obtain rfl:k=n:=by omega
   have HY:=af (ae HZY (ae HALL));by_cases h6:k<=6
   ·
    have h6I:(k:Int)<=6:=by omega
    go_wp2;go_ret;exact⟨ak (by rw[ae HY];simp[h6]),ae HBel⟩
   ·
    have h6I:¬ (k:Int)<=6:=by omega
    go_wp2;go_ret;exact⟨ak (by rw[ae HY];simp[h6]),ae HBel⟩
theorem xL(n:ByteArray)(y mo d h mi s:Int)(t:ByteArray)(b:Nat)(x:ByteArray)(w:World)(hb:w.cell? ⟨b,0,none⟩=some (.string x))(hn:(n.size:Int)<=1048576)(hx:(x.size:Int)<=1048576) :
  Calls Tryz.prog 96 #[.agg #[.string n,.int .i64 y,.int .i64 mo,.int .i64 d,.int .i64 h,.int .i64 mi,.int .i64 s,.string t],.pointer (some ⟨b,0,none⟩)] w fun e w'=>e = .returned (.bool (bf n.data.toList x.data.toList))/\Below w.heap.size w w':=by
 have hlt:b<w.heap.size:=World.block_lt_of_cell? _ _ hb;have hcl:(w.alloc (.cells #[.string n,.int .i64 y,.int .i64 mo,.int .i64 d,.int .i64 h,.int .i64 mi,.int .i64 s,.string t] 26)).cell? ⟨b,0,none⟩=some (.string x):=by
  rw[World.cell?_alloc_past _ _ _ hlt];exact hb
 have HC:=af (fun W=>rk n x W hn hx);clear hb;go_enter Tryz.func96,Tryz.ntmps96;go_wp2_with fail;refine(ae HC _).mono ?_;rintro e w1 ⟨rfl,hw⟩;rw[hw];clear hw;go_wp2;go_ret;exact⟨rfl,(a0b _ _).alloc (a0a _) _⟩
def gk(l:List En)(x:ByteArray):Bool:=l.any fun e=>bf e.n.data.toList x.data.toList
theorem pX{l:List En}{x:ByteArray}{k:Nat}(hk:k<l.length)(e:bf (l.getD k default).n.data.toList x.data.toList=true):gk l x=true:=by
 unfold gk;rw[List.any_eq_true];refine⟨l.getD k default,?_,e⟩;simp[List.getD,hk]
theorem nK{l:List En}{x:ByteArray}(h:∀j,j<l.length->bf (l.getD j default).n.data.toList x.data.toList=false):gk l x=false:=by
 unfold gk;rw[List.any_eq_false];intro e he;obtain⟨j,hj,rfl⟩:=a1o he;have:=h j hj;simp only[List.getD,List.getElem?_eq_getElem hj,a1x]at this;simp[this]
theorem sr(a:Option Addr)(cap:Nat)(l:List En)(n:Nat)(hn:l.length=n)(b:Nat)(x:ByteArray)(w:World)(h:gT w a l)(hl:(n:Int)<=1048576)(hb:w.cell? ⟨b,0,none⟩=some (.string x))(hx:(x.size:Int)<=1048576)
  (hs:∀i,i<n->((l.getD i default).n.size:Int)<=1048576) :
  Calls Tryz.prog 105 #[.slice a n cap,.func (.func 96) #[] #[.pointer (some ⟨b,0,none⟩)]] w fun e w'=>(∃r:Int,e = .returned (.int .i64 r)/\decide (0<=r)=gk l x/\r<1048577)/\Below w.heap.size w w':=by
 have hlt:b<w.heap.size:=World.block_lt_of_cell? _ _ hb;have HS:=af hs;have HR:=af h;have HBc:=af hb;have HLT:=af hlt;have HH:=af (fun k (hk:k<l.length)=>@pX l x k hk);have HM:=af (@nK l x);rw[hn]at HH HM;have HN:=af hn;clear h hs hn hb hlt;go_enter Tryz.func105,Tryz.ntmps105;go_wp2_with fail
 go_loopw [5,8] (fun _ i wr=>∃k:Nat,k<=n/\i = .int .i64 k/\(∀j,j<k->bf (l.getD j default).n.data.toList x.data.toList=false)/\Below w.heap.size w wr) (fun _ i _=>n-(intOf i).toNat)
 case atStart=>exact⟨0,a0h _,rfl,fun j hj=>absurd hj (by omega),a0b _ _⟩
 case round=>
  obtain⟨k,hk,rfl,hall,hbel⟩:=hrel;have HALL:=af hall;have HBel:=af hbel;clear hall hbel;by_cases hkn:k<n
  ·
   have hkI:(k:Int)<(n:Int):=by omega
   obtain⟨g,o,rfl,hg,hc⟩:=(ae HR).later (ae HBel) (by have:=ae HN;omega);obtain⟨c0,c1,c2,c3,c4,c5,c6,c7⟩:=hc k (by have:=ae HN;omega);have HKN:=af hkn;have HHk:=af (ae HH k hkn);have HC:=af (fun W (hW:Below w.heap.size w W)=>xL (l.getD k default).n (l.getD k default).y (l.getD k default).mo (l.getD k default).d (l.getD k default).h (l.getD k default).mi (l.getD k default).s (l.getD k default).t b x W ((hW.cell (p:=⟨b,0,none⟩) (ae HLT)).trans (ae HBc)) (ae HS k hkn) hx);have HNX:Hid (bf (l.getD k default).n.data.toList x.data.toList=false->∀j,j<k+1->bf (l.getD j default).n.data.toList x.data.toList=false):=by
    intro e j hj;by_cases hjk:j=k
    · rw[hjk];exact e
    · exact ae HALL j (by omega)
   clear hc hk HALL hkn;generalize bf (l.getD k default).n.data.toList x.data.toList=u at *
   go_wp2_with fail;refine(ae HC _ (ae HBel)).mono ?_;rintro e z1 ⟨rfl,hz1⟩;have BZ:=af (ag (ae HBel) hz1);clear hz1 c0 c1 c2 c3 c4 c5 c6 c7;cases u
   ·
    have HX:=af (ae HNX rfl);go_wp2;go_roundw
    case rel=>exact⟨k+1,by have:=ae HKN;omega,by go_num,ae HX,ae BZ⟩
    case measure=>have:=ae HKN;simp[intOf];omega
   · have HE:=af (ae HHk rfl);go_wp2;go_ret;exact⟨⟨(k:Int),rfl,by rw[ae HE];simp,by omega⟩,ae BZ⟩
  ·
   obtain rfl:k=n:=by omega
   have HE:=af (ae HM (ae HALL));go_wp2;go_ret;exact⟨⟨-1,rfl,by rw[ae HE];rfl,by omega⟩,ae HBel⟩
theorem nR(a:Option Addr)(cap:Nat)(l:List En)(n:Nat)(hn:l.length=n)(b:Nat)(x:ByteArray)(w:World)(h:gT w a l)(hl:(n:Int)<=1048576)(hb:w.cell? ⟨b,0,none⟩=some (.string x))(hx:(x.size:Int)<=1048576)
  (hs:∀i,i<n->((l.getD i default).n.size:Int)<=1048576) :
  Calls Tryz.prog 95 #[.slice a n cap,.func (.func 96) #[] #[.pointer (some ⟨b,0,none⟩)]] w fun e w'=>e = .returned (.bool (gk l x))/\Below w.heap.size w w':=by
 have HC:=af (sr a cap l n hn b x w h hl hb hx hs);clear h hb hs hn;go_enter Tryz.func95,Tryz.ntmps95;go_wp2_with fail;refine(ae HC).mono ?_;rintro e w1 ⟨⟨r,rfl,hr,_⟩,hb1⟩;have HR:=af hr;have HB:=af hb1;clear hr hb1;go_wp2;go_ret;exact⟨ak (ae HR),ae HB⟩
def aH(l:List En)(e:En):Int:=if fe e then(if gk l e.n then 3 else if 6<=l.length then 4 else 0)else 1
def cH(c:Int):Value:=if c=0 then .nilIface else .iface 92 (.agg #[.int .i64 c])
theorem kU(a:Option Addr)(cap:Nat)(l:List En)(n:Nat)(hn:l.length=n)(e:En)(m:Int)(w:World)(h:gT w a l)(hl:(n:Int)<=1048576)
  (hs:∀i,i<n->((l.getD i default).n.size:Int)<=1048576) (he:e.n.size<=1048576) (ht:(e.t.size:Int)<=9223372036854775807) (hm:w.cell? ⟨2,0,none⟩=some (.int .i64 m)) :
  Calls Tryz.prog 59 #[.slice a n cap,.agg #[.string e.n,.int .i64 e.y,.int .i64 e.mo,.int .i64 e.d,.int .i64 e.h,.int .i64 e.mi,.int .i64 e.s,.string e.t]] w fun f w'=>f = .returned (cH (aH l e))/\Below w.heap.size w w':=by
 have HM:Hid ((w.alloc (.cells #[.string e.n,.int .i64 e.y,.int .i64 e.mo,.int .i64 e.d,.int .i64 e.h,.int .i64 e.mi,.int .i64 e.s,.string e.t] 26)).cell? ⟨2,0,none⟩=some (.int .i64 m)):=by
  show _=_;rw[World.cell?_alloc_past _ _ _ (World.block_lt_of_cell? _ _ hm)];exact hm
 have HEO:=af (gm e.n e.y e.mo e.d e.h e.mi e.s e.t m _ he ht (ae HM));have HR:=af h;have HS:=af hs;have HN:=af hn;have heI:(e.n.size:Int)<=1048576:=by omega
 clear h hs hm hn;cases hk:fe e
 ·
  have hc:aH l e=1:=by simp[aH,hk]
  rw[hc];go_enter Tryz.func59,Tryz.ntmps59;go_wp2_with fail;refine(ae HEO).mono ?_;rintro f w1 ⟨rfl,hb1⟩;rw[show eZ e.n e.y e.mo e.d e.h e.mi e.s e.t=false from hk];have HB1:=af (kf hb1).2;clear hb1;go_wp2;go_ret;exact⟨rfl,ae HB1⟩
 ·
  have HRC:Hid (aH l e=if gk l e.n then 3 else if 6<=n then 4 else 0):=by show _=_;rw[←ae HN];simp[aH,hk]
  go_enter Tryz.func59,Tryz.ntmps59;go_wp2_with fail;refine(ae HEO).mono ?_;rintro f w1 ⟨rfl,hb1⟩;rw[show eZ e.n e.y e.mo e.d e.h e.mi e.s e.t=true from hk];have HB1:=af (kf hb1).2;have HX1:=af (kf hb1).1;clear hb1;have HCC:=af (nR a cap l n (ae HN) w.heap.size e.n w1 ((ae HR).later (ae HB1)) hl (ae HX1).1.1 heI (ae HS));clear HX1 HEO;generalize gk l e.n=u at *
  go_wp2_with fail;refine(ae HCC).mono ?_;rintro f w2 ⟨rfl,hb2⟩;have HB2:=af (ag (ae HB1) hb2);clear hb2 HCC;cases u
  ·
   by_cases h6:6<=n
   ·
    have h6I:(6:Int)<=(n:Int):=by omega
    have HC:Hid (aH l e=4):=by show _=_;rw[ae HRC];simp[h6]
    go_wp2;go_ret;exact⟨by rw[ae HC];rfl,ae HB2⟩
   ·
    have HC:Hid (aH l e=0):=by show _=_;rw[ae HRC];simp[h6]
    go_wp2;go_ret;exact⟨by rw[ae HC];rfl,ae HB2⟩
  ·
   have HC:Hid (aH l e=3):=by show _=_;rw[ae HRC];simp
   go_wp2;go_ret;exact⟨by rw[ae HC];rfl,ae HB2⟩
end Go.Proofs.YtfhdadkcophoaaaGreatDoor
