/- Of what the proof is made: 3 texts, one behind the other. -/
import Derived.Test.YtkdlcomfpffhhaaGreatDoorM21
import Derived.Test.YtkdlcomfpffhhaaGreatDoorM27
set_option linter.unusedSimpArgs false
set_option linter.unusedVariables false
set_option maxHeartbeats 1600000
namespace Go.Proofs.YtkdlcomfpffhhaaGreatDoor
open Go.RowKit
def jI(e:En):Bool:=jW e.n e.y e.mo e.d e.h e.mi e.s e.t
def wk(l:List En)(i:Nat):Bool:=(List.range l.length).all fun k=>!di (l.getD i default).n.data.toList (l.getD k default).n.data.toList
def GU(l:List En)(i:Nat):Bool:=jI (l.getD i default)&&(decide (atN l (l.getD i default).n=(i:Int))&&wk l i)
def eK(l:List En):Bool:=(List.range l.length).all (GU l)&&decide (l.length<=6)
theorem K9{l:List En}(h:∀i,i<l.length->GU l i=true):eK l=decide (l.length<=6):=by
 have:(List.range l.length).all (GU l)=true:=by
  rw[a0R];exact fun i hi=>h i (List.mem_range.1 hi)
 simp[eK,this]
theorem FZ{l:List En}{i:Nat}(h:∀k,k<l.length->di (l.getD i default).n.data.toList (l.getD k default).n.data.toList=false):wk l i=true:=by
 unfold wk;rw[a0R];exact fun k hk=>by rw[h k (List.mem_range.1 hk)];rfl
theorem xK(n:ByteArray)(y mo d h mi s:Int)(t:ByteArray)(b:Nat)(x:ByteArray)(w:World)(hb:w.cell? ⟨b,0,none⟩=some (.string x))(hn:(n.size:Int)<=1048576)(hx:(x.size:Int)<=1048576) :
  Calls Tryz.prog 121 #[.agg #[.string n,.int .i64 y,.int .i64 mo,.int .i64 d,.int .i64 h,.int .i64 mi,.int .i64 s,.string t],.pointer (some ⟨b,0,none⟩)] w fun e w'=>e = .returned (.bool (bD n.data.toList x.data.toList))/\Below w.heap.size w w':=by
 have hlt:b<w.heap.size:=World.block_lt_of_cell? _ _ hb;have hcl:(w.alloc (.cells #[.string n,.int .i64 y,.int .i64 mo,.int .i64 d,.int .i64 h,.int .i64 mi,.int .i64 s,.string t] 32)).cell? ⟨b,0,none⟩=some (.string x):=by
  rw[World.cell?_alloc_past _ _ _ hlt];exact hb
 have HC:=af (fun W=>kk n x W hn hx);clear hb;go_enter Tryz.func121,Tryz.ntmps121;go_wp2_with fail;refine(ae HC _).mono ?_;rintro e w1 ⟨rfl,hw⟩;rw[hw];clear hw;go_wp2;go_ret;exact⟨rfl,(a0c _ _).alloc (a0a _) _⟩
def pt(l:List En)(x:ByteArray):Bool:=l.any fun e=>bD e.n.data.toList x.data.toList
theorem vq{l:List En}{x:ByteArray}{k:Nat}(hk:k<l.length)(e:bD (l.getD k default).n.data.toList x.data.toList=true):pt l x=true:=by
 unfold pt;rw[List.any_eq_true];refine⟨l.getD k default,?_,e⟩;simp[List.getD,hk]
theorem sF{l:List En}{x:ByteArray}(h:∀j,j<l.length->bD (l.getD j default).n.data.toList x.data.toList=false):pt l x=false:=by
 unfold pt;rw[List.any_eq_false];intro e he;obtain⟨j,hj,rfl⟩:=a1X he;have:=h j hj;simp only[List.getD,List.getElem?_eq_getElem hj,a1K]at this;simp[this]
theorem sv(a:Option Addr)(cap:Nat)(l:List En)(n:Nat)(hn:l.length=n)(b:Nat)(x:ByteArray)(w:World)(h:lF w a l)(hl:(n:Int)<=1048576)(hb:w.cell? ⟨b,0,none⟩=some (.string x))(hx:(x.size:Int)<=1048576)
  (hs:∀i,i<n->((l.getD i default).n.size:Int)<=1048576) :
  Calls Tryz.prog 163 #[.slice a n cap,.func (.func 121) #[] #[.pointer (some ⟨b,0,none⟩)]] w fun e w'=>(∃r:Int,e = .returned (.int .i64 r)/\decide (0<=r)=pt l x/\r<1048577)/\Below w.heap.size w w':=by
 have hlt:b<w.heap.size:=World.block_lt_of_cell? _ _ hb;have HS:=af hs;have HR:=af h;have HBc:=af hb;have HLT:=af hlt;have HH:=af (fun k (hk:k<l.length)=>@vq l x k hk);have HM:=af (@sF l x);rw[hn]at HH HM;have HN:=af hn;clear h hs hn hb hlt;go_enter Tryz.func163,Tryz.ntmps163;go_wp2_with fail
 go_loopw [5,8] (fun _ i wr=>∃k:Nat,k<=n/\i = .int .i64 k/\(∀j,j<k->bD (l.getD j default).n.data.toList x.data.toList=false)/\Below w.heap.size w wr) (fun _ i _=>n-(intOf i).toNat)
 case atStart=>exact⟨0,a0h _,rfl,fun j hj=>absurd hj (by omega),a0c _ _⟩
 case round=>
  obtain⟨k,hk,rfl,hall,hbel⟩:=hrel;have HALL:=af hall;have HBel:=af hbel;clear hall hbel;by_cases hkn:k<n
  ·
   have hkI:(k:Int)<(n:Int):=by omega
   obtain⟨g,o,rfl,hg,hc⟩:=(ae HR).later (ae HBel) (by have:=ae HN;omega);obtain⟨c0,c1,c2,c3,c4,c5,c6,c7⟩:=hc k (by have:=ae HN;omega);have HKN:=af hkn;have HHk:=af (ae HH k hkn);have HC:=af (fun W (hW:Below w.heap.size w W)=>xK (l.getD k default).n (l.getD k default).y (l.getD k default).mo (l.getD k default).d (l.getD k default).h (l.getD k default).mi (l.getD k default).s (l.getD k default).t b x W ((hW.cell (p:=⟨b,0,none⟩) (ae HLT)).trans (ae HBc)) (ae HS k hkn) hx);have HNX:Hid (bD (l.getD k default).n.data.toList x.data.toList=false->∀j,j<k+1->bD (l.getD j default).n.data.toList x.data.toList=false):=by
    intro e j hj;by_cases hjk:j=k
    · rw[hjk];exact e
    · exact ae HALL j (by omega)
   clear hc hk HALL hkn;generalize bD (l.getD k default).n.data.toList x.data.toList=u at *
   go_wp2_with fail;refine(ae HC _ (ae HBel)).mono ?_;rintro e z1 ⟨rfl,hz1⟩;have BZ:=af (aj (ae HBel) hz1);clear hz1 c0 c1 c2 c3 c4 c5 c6 c7;cases u
   ·
    have HX:=af (ae HNX rfl);go_wp2;go_roundw
    case rel=>exact⟨k+1,by have:=ae HKN;omega,by go_num,ae HX,ae BZ⟩
    case measure=>have:=ae HKN;simp[intOf];omega
   · have HE:=af (ae HHk rfl);go_wp2;go_ret;exact⟨⟨(k:Int),rfl,by rw[ae HE];simp,by omega⟩,ae BZ⟩
  ·
   obtain rfl:k=n:=by omega
   have HE:=af (ae HM (ae HALL));go_wp2;go_ret;exact⟨⟨-1,rfl,by rw[ae HE];rfl,by omega⟩,ae HBel⟩
theorem nO(a:Option Addr)(cap:Nat)(l:List En)(n:Nat)(hn:l.length=n)(b:Nat)(x:ByteArray)(w:World)(h:lF w a l)(hl:(n:Int)<=1048576)(hb:w.cell? ⟨b,0,none⟩=some (.string x))(hx:(x.size:Int)<=1048576)
  (hs:∀i,i<n->((l.getD i default).n.size:Int)<=1048576) :
  Calls Tryz.prog 120 #[.slice a n cap,.func (.func 121) #[] #[.pointer (some ⟨b,0,none⟩)]] w fun e w'=>e = .returned (.bool (pt l x))/\Below w.heap.size w w':=by
 have HC:=af (sv a cap l n hn b x w h hl hb hx hs);clear h hb hs hn;go_enter Tryz.func120,Tryz.ntmps120;go_wp2_with fail;refine(ae HC).mono ?_;rintro e w1 ⟨⟨r,rfl,hr,_⟩,hb1⟩;have HR:=af hr;have HB:=af hb1;clear hr hb1;go_wp2;go_ret;exact⟨ak (ae HR),ae HB⟩
def cA(l:List En)(e:En):Int:=if jI e then(if pt l e.n then 3 else if 6<=l.length then 4 else 0)else 1
def eq(c:Int):Value:=if c=0 then .nilIface else .iface 121 (.agg #[.int .i64 c])
theorem pp(a:Option Addr)(cap:Nat)(l:List En)(n:Nat)(hn:l.length=n)(e:En)(m:Int)(w:World)(h:lF w a l)(hl:(n:Int)<=1048576)
  (hs:∀i,i<n->((l.getD i default).n.size:Int)<=1048576) (he:e.n.size<=1048576) (ht:(e.t.size:Int)<=9223372036854775807) (hm:w.cell? ⟨2,0,none⟩=some (.int .i64 m)) :
  Calls Tryz.prog 80 #[.slice a n cap,.agg #[.string e.n,.int .i64 e.y,.int .i64 e.mo,.int .i64 e.d,.int .i64 e.h,.int .i64 e.mi,.int .i64 e.s,.string e.t]] w fun f w'=>f = .returned (eq (cA l e))/\Below w.heap.size w w':=by
 have HM:Hid ((w.alloc (.cells #[.string e.n,.int .i64 e.y,.int .i64 e.mo,.int .i64 e.d,.int .i64 e.h,.int .i64 e.mi,.int .i64 e.s,.string e.t] 32)).cell? ⟨2,0,none⟩=some (.int .i64 m)):=by
  show _=_;rw[World.cell?_alloc_past _ _ _ (World.block_lt_of_cell? _ _ hm)];exact hm
 have HEO:=af (jF e.n e.y e.mo e.d e.h e.mi e.s e.t m _ he ht (ae HM));have HR:=af h;have HS:=af hs;have HN:=af hn;have heI:(e.n.size:Int)<=1048576:=by omega
 clear h hs hm hn;cases hk:jI e
 ·
  have hc:cA l e=1:=by simp[cA,hk]
  rw[hc];go_enter Tryz.func80,Tryz.ntmps80;go_wp2_with fail;refine(ae HEO).mono ?_;rintro f w1 ⟨rfl,hb1⟩;rw[show jW e.n e.y e.mo e.d e.h e.mi e.s e.t=false from hk];have HB1:=af (mM hb1).2;clear hb1;go_wp2;go_ret;exact⟨rfl,ae HB1⟩
 ·
  have HRC:Hid (cA l e=if pt l e.n then 3 else if 6<=n then 4 else 0):=by show _=_;rw[←ae HN];simp[cA,hk]
  go_enter Tryz.func80,Tryz.ntmps80;go_wp2_with fail;refine(ae HEO).mono ?_;rintro f w1 ⟨rfl,hb1⟩;rw[show jW e.n e.y e.mo e.d e.h e.mi e.s e.t=true from hk];have HB1:=af (mM hb1).2;have HX1:=af (mM hb1).1;clear hb1;have HCC:=af (nO a cap l n (ae HN) w.heap.size e.n w1 ((ae HR).later (ae HB1)) hl (ae HX1).1.1 heI (ae HS));clear HX1 HEO;generalize pt l e.n=u at *
  go_wp2_with fail;refine(ae HCC).mono ?_;rintro f w2 ⟨rfl,hb2⟩;have HB2:=af (aj (ae HB1) hb2);clear hb2 HCC;cases u
  ·
   by_cases h6:6<=n
   ·
    have h6I:(6:Int)<=(n:Int):=by omega
    have HC:Hid (cA l e=4):=by show _=_;rw[ae HRC];simp[h6]
    go_wp2;go_ret;exact⟨by rw[ae HC];rfl,ae HB2⟩
   ·
    have HC:Hid (cA l e=0):=by show _=_;rw[ae HRC];simp[h6]
    go_wp2;go_ret;exact⟨by rw[ae HC];rfl,ae HB2⟩
  ·
   have HC:Hid (cA l e=3):=by show _=_;rw[ae HRC];simp
   go_wp2;go_ret;exact⟨by rw[ae HC];rfl,ae HB2⟩
end Go.Proofs.YtkdlcomfpffhhaaGreatDoor
