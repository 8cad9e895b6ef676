/- Of what the proof is made: 3 texts, one behind the other. -/
import Derived.Test.YtkpfkgoiaicgbaaGreatDoorM23
import Derived.Test.YtkpfkgoiaicgbaaGreatDoorM27
set_option linter.unusedSimpArgs false
set_option linter.unusedVariables false
set_option maxHeartbeats 1600000
namespace Go.Proofs.YtkpfkgoiaicgbaaGreatDoor
open Go.RowKit
def jN(e:En):Bool:=j8 e.n e.y e.mo e.d e.h e.mi e.s e.t
def wD(l:List En)(i:Nat):Bool:=(List.range l.length).all fun k=>!di (l.getD i default).n.data.toList (l.getD k default).n.data.toList
def Hh(l:List En)(i:Nat):Bool:=jN (l.getD i default)&&(decide (atN l (l.getD i default).n=(i:Int))&&wD l i)
def fq(l:List En):Bool:=(List.range l.length).all (Hh l)&&decide (l.length<=6)
theorem Ln{l:List En}(h:∀i,i<l.length->Hh l i=true):fq l=decide (l.length<=6):=by
 have:(List.range l.length).all (Hh l)=true:=by
  rw[List.all_eq_true];exact fun i hi=>h i (List.mem_range.1 hi)
 simp[fq,this]
theorem Gh{l:List En}{i:Nat}(h:∀k,k<l.length->di (l.getD i default).n.data.toList (l.getD k default).n.data.toList=false):wD l i=true:=by
 unfold wD;rw[List.all_eq_true];exact fun k hk=>by rw[h k (List.mem_range.1 hk)];rfl
theorem xY(n:ByteArray)(y mo d h mi s:Int)(t:ByteArray)(b:Nat)(x:ByteArray)(w:World)(hb:w.cell? ⟨b,0,none⟩=some (.string x))(hn:(n.size:Int)<=1048576)(hx:(x.size:Int)<=1048576) :
  Calls Tryz.prog 113 #[.agg #[.string n,.int .i64 y,.int .i64 mo,.int .i64 d,.int .i64 h,.int .i64 mi,.int .i64 s,.string t],.pointer (some ⟨b,0,none⟩)] w fun e w'=>e = .returned (.bool (bE n.data.toList x.data.toList))/\Below w.heap.size w w':=by
 have hlt:b<w.heap.size:=World.block_lt_of_cell? _ _ hb;have hcl:(w.alloc (.cells #[.string n,.int .i64 y,.int .i64 mo,.int .i64 d,.int .i64 h,.int .i64 mi,.int .i64 s,.string t] 51)).cell? ⟨b,0,none⟩=some (.string x):=by
  rw[World.cell?_alloc_past _ _ _ hlt];exact hb
 have HC:=af (fun W=>kw n x W hn hx);clear hb;go_enter Tryz.func113,Tryz.ntmps113;go_wp2_with fail;refine(ae HC _).mono ?_;rintro e w1 ⟨rfl,hw⟩;rw[hw];clear hw;go_wp2;go_ret;exact⟨rfl,(Below.refl _ _).alloc (Nat.le_refl _) _⟩
def pI(l:List En)(x:ByteArray):Bool:=l.any fun e=>bE e.n.data.toList x.data.toList
theorem vE{l:List En}{x:ByteArray}{k:Nat}(hk:k<l.length)(e:bE (l.getD k default).n.data.toList x.data.toList=true):pI l x=true:=by
 unfold pI;rw[List.any_eq_true];refine⟨l.getD k default,?_,e⟩;simp[List.getD,hk]
theorem sV{l:List En}{x:ByteArray}(h:∀j,j<l.length->bE (l.getD j default).n.data.toList x.data.toList=false):pI l x=false:=by
 unfold pI;rw[List.any_eq_false];intro e he;obtain⟨j,hj,rfl⟩:=List.getElem_of_mem he;have:=h j hj;simp only[List.getD,List.getElem?_eq_getElem hj,Option.getD_some]at this;simp[this]
theorem sM(a:Option Addr)(cap:Nat)(l:List En)(n:Nat)(hn:l.length=n)(b:Nat)(x:ByteArray)(w:World)(h:lZ w a l)(hl:(n:Int)<=1048576)(hb:w.cell? ⟨b,0,none⟩=some (.string x))(hx:(x.size:Int)<=1048576)
  (hs:∀i,i<n->((l.getD i default).n.size:Int)<=1048576) :
  Calls Tryz.prog 153 #[.slice a n cap,.func (.func 113) #[] #[.pointer (some ⟨b,0,none⟩)]] w fun e w'=>(∃r:Int,e = .returned (.int .i64 r)/\decide (0<=r)=pI l x/\r<1048577)/\Below w.heap.size w w':=by
 have hlt:b<w.heap.size:=World.block_lt_of_cell? _ _ hb;have HS:=af hs;have HR:=af h;have HBc:=af hb;have HLT:=af hlt;have HH:=af (fun k (hk:k<l.length)=>@vE l x k hk);have HM:=af (@sV l x);rw[hn]at HH HM;have HN:=af hn;clear h hs hn hb hlt;go_enter Tryz.func153,Tryz.ntmps153;go_wp2_with fail
 go_loopw [5,8] (fun _ i wr=>∃k:Nat,k<=n/\i = .int .i64 k/\(∀j,j<k->bE (l.getD j default).n.data.toList x.data.toList=false)/\Below w.heap.size w wr) (fun _ i _=>n-(intOf i).toNat)
 case atStart=>exact⟨0,Nat.zero_le _,rfl,fun j hj=>absurd hj (by omega),Below.refl _ _⟩
 case round=>
  obtain⟨k,hk,rfl,hall,hbel⟩:=hrel;have HALL:=af hall;have HBel:=af hbel;clear hall hbel;by_cases hkn:k<n
  ·
   have hkI:(k:Int)<(n:Int):=by omega
   obtain⟨g,o,rfl,hg,hc⟩:=(ae HR).later (ae HBel) (by have:=ae HN;omega);obtain⟨c0,c1,c2,c3,c4,c5,c6,c7⟩:=hc k (by have:=ae HN;omega);have HKN:=af hkn;have HHk:=af (ae HH k hkn);have HC:=af (fun W (hW:Below w.heap.size w W)=>xY (l.getD k default).n (l.getD k default).y (l.getD k default).mo (l.getD k default).d (l.getD k default).h (l.getD k default).mi (l.getD k default).s (l.getD k default).t b x W ((hW.cell (p:=⟨b,0,none⟩) (ae HLT)).trans (ae HBc)) (ae HS k hkn) hx);have HNX:Hid (bE (l.getD k default).n.data.toList x.data.toList=false->∀j,j<k+1->bE (l.getD j default).n.data.toList x.data.toList=false):=by
    intro e j hj;by_cases hjk:j=k
    · rw[hjk];exact e
    · exact ae HALL j (by omega)
   clear hc hk HALL hkn;generalize bE (l.getD k default).n.data.toList x.data.toList=u at *
   go_wp2_with fail;refine(ae HC _ (ae HBel)).mono ?_;rintro e z1 ⟨rfl,hz1⟩;have BZ:=af (aj (ae HBel) hz1);clear hz1 c0 c1 c2 c3 c4 c5 c6 c7;cases u
   ·
    have HX:=af (ae HNX rfl);go_wp2;go_roundw
    case rel=>exact⟨k+1,by have:=ae HKN;omega,by go_num,ae HX,ae BZ⟩
    case measure=>have:=ae HKN;simp[intOf];omega
   · have HE:=af (ae HHk rfl);go_wp2;go_ret;exact⟨⟨(k:Int),rfl,by rw[ae HE];simp,by omega⟩,ae BZ⟩
  ·
   obtain rfl:k=n:=by omega
   have HE:=af (ae HM (ae HALL));go_wp2;go_ret;exact⟨⟨-1,rfl,by rw[ae HE];rfl,by omega⟩,ae HBel⟩
theorem oa(a:Option Addr)(cap:Nat)(l:List En)(n:Nat)(hn:l.length=n)(b:Nat)(x:ByteArray)(w:World)(h:lZ w a l)(hl:(n:Int)<=1048576)(hb:w.cell? ⟨b,0,none⟩=some (.string x))(hx:(x.size:Int)<=1048576)
  (hs:∀i,i<n->((l.getD i default).n.size:Int)<=1048576) :
  Calls Tryz.prog 112 #[.slice a n cap,.func (.func 113) #[] #[.pointer (some ⟨b,0,none⟩)]] w fun e w'=>e = .returned (.bool (pI l x))/\Below w.heap.size w w':=by
 have HC:=af (sM a cap l n hn b x w h hl hb hx hs);clear h hb hs hn;go_enter Tryz.func112,Tryz.ntmps112;go_wp2_with fail;refine(ae HC).mono ?_;rintro e w1 ⟨⟨r,rfl,hr,_⟩,hb1⟩;have HR:=af hr;have HB:=af hb1;clear hr hb1;go_wp2;go_ret;exact⟨ak (ae HR),ae HB⟩
def cB(l:List En)(e:En):Int:=if jN e then(if pI l e.n then 3 else if 6<=l.length then 4 else 0)else 1
def eo(c:Int):Value:=if c=0 then .nilIface else .iface 124 (.agg #[.int .i64 c])
theorem pF(a:Option Addr)(cap:Nat)(l:List En)(n:Nat)(hn:l.length=n)(e:En)(m:Int)(w:World)(h:lZ w a l)(hl:(n:Int)<=1048576)
  (hs:∀i,i<n->((l.getD i default).n.size:Int)<=1048576) (he:e.n.size<=1048576) (ht:(e.t.size:Int)<=9223372036854775807) (hm:w.cell? ⟨2,0,none⟩=some (.int .i64 m)) :
  Calls Tryz.prog 67 #[.slice a n cap,.agg #[.string e.n,.int .i64 e.y,.int .i64 e.mo,.int .i64 e.d,.int .i64 e.h,.int .i64 e.mi,.int .i64 e.s,.string e.t]] w fun f w'=>f = .returned (eo (cB l e))/\Below w.heap.size w w':=by
 have HM:Hid ((w.alloc (.cells #[.string e.n,.int .i64 e.y,.int .i64 e.mo,.int .i64 e.d,.int .i64 e.h,.int .i64 e.mi,.int .i64 e.s,.string e.t] 51)).cell? ⟨2,0,none⟩=some (.int .i64 m)):=by
  show _=_;rw[World.cell?_alloc_past _ _ _ (World.block_lt_of_cell? _ _ hm)];exact hm
 have HEO:=af (jK e.n e.y e.mo e.d e.h e.mi e.s e.t m _ he ht (ae HM));have HR:=af h;have HS:=af hs;have HN:=af hn;have heI:(e.n.size:Int)<=1048576:=by omega
 clear h hs hm hn;cases hk:jN e
 ·
  have hc:cB l e=1:=by simp[cB,hk]
  rw[hc];go_enter Tryz.func67,Tryz.ntmps67;go_wp2_with fail;refine(ae HEO).mono ?_;rintro f w1 ⟨rfl,hb1⟩;rw[show j8 e.n e.y e.mo e.d e.h e.mi e.s e.t=false from hk];have HB1:=af (mY hb1).2;clear hb1;go_wp2;go_ret;exact⟨rfl,ae HB1⟩
 ·
  have HRC:Hid (cB l e=if pI l e.n then 3 else if 6<=n then 4 else 0):=by show _=_;rw[←ae HN];simp[cB,hk]
  go_enter Tryz.func67,Tryz.ntmps67;go_wp2_with fail;refine(ae HEO).mono ?_;rintro f w1 ⟨rfl,hb1⟩;rw[show j8 e.n e.y e.mo e.d e.h e.mi e.s e.t=true from hk];have HB1:=af (mY hb1).2;have HX1:=af (mY hb1).1;clear hb1;have HCC:=af (oa a cap l n (ae HN) w.heap.size e.n w1 ((ae HR).later (ae HB1)) hl (ae HX1).1.1 heI (ae HS));clear HX1 HEO;generalize pI l e.n=u at *
  go_wp2_with fail;refine(ae HCC).mono ?_;rintro f w2 ⟨rfl,hb2⟩;have HB2:=af (aj (ae HB1) hb2);clear hb2 HCC;cases u
  ·
   by_cases h6:6<=n
   ·
    have h6I:(6:Int)<=(n:Int):=by omega
    have HC:Hid (cB l e=4):=by show _=_;rw[ae HRC];simp[h6]
    go_wp2;go_ret;exact⟨by rw[ae HC];rfl,ae HB2⟩
   ·
    have HC:Hid (cB l e=0):=by show _=_;rw[ae HRC];simp[h6]
    go_wp2;go_ret;exact⟨by rw[ae HC];rfl,ae HB2⟩
  ·
   have HC:Hid (cB l e=3):=by show _=_;rw[ae HRC];simp
   go_wp2;go_ret;exact⟨by rw[ae HC];rfl,ae HB2⟩
end Go.Proofs.YtkpfkgoiaicgbaaGreatDoor
