/- Texts. -/
import Derived.Test.YtckocaibjciplaaGreatDoorM30
import Derived.Lib.QuietBelow
set_option linter.all false
set_option maxHeartbeats 1600000
namespace Go.Proofs.YtckocaibjciplaaGreatDoor
open Go.RowKit
def jI.take{w:World}{a:Option Addr}{l:List En}(h:jI w a l)(k:Nat):jI w a (l.take k):=by
 intro b;have c:0<l.length:=by rw[a0v]at b;omega
 obtain⟨g,o,e,f,d⟩:=h c;refine⟨g,o,e,f,fun i j=>?_⟩;rw[a0v]at j;have e1:(l.take k).getD i default=l.getD i default:=by
  simp only[List.getD];rw[List.getElem?_take_of_lt (by omega)]
 rw[e1];exact d i (by omega)
def oI(l:List En)(k i:Nat)(a:i<k):(l.take k).getD i default=l.getD i default:=by
 simp only[List.getD];rw[List.getElem?_take_of_lt a]
def jC(l:List En)(i:Nat):Int:=aH (l.take i) (l.getD i default)
def Rc(l:List En)(e:En):aH l e=0∨aH l e=1∨aH l e=3∨aH l e=4:=by
 unfold aH;split<;>(try split)<;>(try split)<;>simp
def Bb(a:Option Addr)(cap:Nat)(l:List En)(n:Nat)(hn:l.length=n)(m:Int)(w:World)(h:jI w a l)(hl:(n:Int)<=1048576)(aa:(n:Int)<=(cap:Int))
  (hs:∀i,i<n->(l.getD i default).n.size<=1048576/\((l.getD i default).t.size:Int)<=9223372036854775807) (T:w.cell? ⟨2,0,none⟩=some (.int .i64 m)) :
  Calls Tryz.prog 62 #[.slice a n cap] w fun e w'=>(∃c:Int,e = .returned (dJ c)/\(c=0<->∀i,i<n->jC l i=0)/\(c=0∨c=1∨c=3∨c=4))/\Below w.heap.size w w':=by
 have D:=cE
 have Q:=af hs;have HR:=af h;have HM:=af T;have U:=af (World.block_lt_of_cell? _ _ T);have CM:=af (fun W (hb:Below w.heap.size w W)=>(hb.cell (p:=⟨2,0,none⟩) U).trans HM);have N:=af hn;clear h hs T hn;go_enter Tryz.func62,Tryz.ntmps62;go_wp2_with fail
 go_loopw [3,4,5,8] (fun _ _ _ i wr=>∃k:Nat,k<=n/\i = .int .i64 k/\(∀j,j<k->jC l j=0)/\Below w.heap.size w wr) (fun _ _ _ i _=>n-(intOf i).toNat)
 case atStart=>exact⟨0,a0g _,rfl,fun j hj=>absurd hj (by omega),a0c _ _⟩
 case round=>
  obtain⟨k,hk,rfl,B,C⟩:=hrel;have u:=af B;have b:=af C;clear B C;by_cases A:k<n
  .
   have ab:(k:Int)<(n:Int):=(by omega);have ac:(k:Int)<=(cap:Int):=(by omega);obtain⟨g,o,rfl,hg,hc⟩:=HR.later b (by have:=ae N;omega);obtain⟨c0,c1,c2,c3,c4,c5,c6,c7⟩:=hc k (by have:=ae N;omega);have E:=af A;have M:Hid ((l.take k).length=k):=by show _=_;rw[a0v,ae N];omega
   have K:=af (fun W (hW:Below w.heap.size w W)=>nZ (some ⟨g,o,none⟩) cap (l.take k) k M (l.getD k default) m W ((HR.later hW).take k) (by omega)
    (fun i hi=>by rw[oI l k i hi];have:=(Q i (by omega)).1;omega) (Q k A).1 (Q k A).2 (CM W hW))
   have I:=af (Rc (l.take k) (l.getD k default));have z:Hid (aH (l.take k) (l.getD k default)=jC l k):=rfl;have F:Hid (jC l k=0->∀j,j<k+1->jC l j=0):=by
    intro e j hj;by_cases S:j=k
    . rw[S];exact e
    . exact u j (by omega)
   clear hc hk u A;generalize l.getD k default=en at *;by_cases r:aH (l.take k) en=0
   .
    have H:dJ (aH (l.take k) en) = .nilIface:=by rw[r];rfl
    rw[H]at K;have HX:=af (ae F (z.symm.trans r));clear H r z F I;go_wp2_with fail;obtain⟨W4,hW4⟩:∃W,W=wr.alloc (.cells en 34):=⟨_,rfl⟩;rw[←hW4];have v:Hid (Ent W4 wr.heap.size en.n en.y en.mo en.d en.h en.mi en.s en.t):=by rw[hW4];exact jU wr en.n en.y en.mo en.d en.h en.mi en.s en.t 34
    have f:Hid (Below w.heap.size w W4):=by rw[hW4];exact b.alloc b.size _
    clear hW4;obtain⟨⟨u0,u1,u2,u3,u4,u5,u6,u7⟩,_,_⟩:=ae v;have k0:=cell_regrown u0;have V:=cell_regrown u1;have X:=cell_regrown u2;have Y:=cell_regrown u3;have Z:=cell_regrown u4;have k5:=cell_regrown u5;have k6:=cell_regrown u6;have k7:=cell_regrown u7;have J:=fun d os=>Calls.regrown_of (w:=W4) (d:=d) (os:=os) (K _ (f.trans ((below_regrown W4 d os).mono f.size)));clear u0 u1 u2 u3 u4 u5 u6 u7 v;refine wp_region_quiet_below D (by kernel_rfl) ?_;repeat (quiet_step (exact J _ _))
    refine a1L ?_;intro zw G;obtain⟨⟨R,osq⟩,x⟩:=G;have q:=below_regrown W4 R osq;rw[←x]at q;have L:=af (aj f q);clear x q k0 V X Y Z k5 k6 k7 J f;go_wp2;go_roundw
    case rel=>exact⟨k+1,by have:=ae E;omega,by go_num,HX,L⟩
    case measure=>have:=ae E;simp[intOf];omega
   .
    have H:dJ (aH (l.take k) en) = .iface 99 (.agg #[.int .i64 (aH (l.take k) en)]):=by unfold dJ;rw[a0e r]
    have HF:=af H.symm;rw[H]at K;have P:Hid (¬ ∀i,i<n->jC l i=0):=fun e=>r (z.trans (e k E));have O:=af r;clear H r z F;generalize aH (l.take k) en=c at *;go_wp2_with fail;obtain⟨W4,hW4⟩:∃W,W=wr.alloc (.cells en 34):=⟨_,rfl⟩;rw[←hW4];have v:Hid (Ent W4 wr.heap.size en.n en.y en.mo en.d en.h en.mi en.s en.t):=by rw[hW4];exact jU wr en.n en.y en.mo en.d en.h en.mi en.s en.t 34
    have f:Hid (Below w.heap.size w W4):=by rw[hW4];exact b.alloc b.size _
    clear hW4;obtain⟨⟨u0,u1,u2,u3,u4,u5,u6,u7⟩,_,_⟩:=ae v;have k0:=cell_regrown u0;have V:=cell_regrown u1;have X:=cell_regrown u2;have Y:=cell_regrown u3;have Z:=cell_regrown u4;have k5:=cell_regrown u5;have k6:=cell_regrown u6;have k7:=cell_regrown u7;have J:=fun d os=>Calls.regrown_of (w:=W4) (d:=d) (os:=os) (K _ (f.trans ((below_regrown W4 d os).mono f.size)));clear u0 u1 u2 u3 u4 u5 u6 u7 v;refine wp_region_quiet_below D (by kernel_rfl) ?_;repeat (quiet_step (exact J _ _))
    refine a1L ?_;intro zw G;obtain⟨⟨R,osq⟩,x⟩:=G;have q:=below_regrown W4 R osq;rw[←x]at q;have L:=af (aj f q);clear x q k0 V X Y Z k5 k6 k7 J f;go_wp2;go_ret;refine⟨⟨c,?_,⟨fun e=>absurd e (ae O),fun e=>absurd e (ae P)⟩,I⟩,L⟩;rw[←ae HF];rfl
  .
   obtain rfl:k=n:=by omega
   go_wp2;go_ret;exact⟨⟨0,rfl,⟨fun _=>ae u,fun _=>rfl⟩,.inl rfl⟩,b⟩
def LQ(l:List En)(x:ByteArray):iG l x=false<->∀j,j<l.length->bW (l.getD j default).n.data.toList x.data.toList=false:=by
 refine⟨fun h j a=>?_,rz⟩;cases e:bW (l.getD j default).n.data.toList x.data.toList
 . rfl
 . rw[uK a e]at h;cases h
def KW(l:List En)(e:En):aH l e=0<->je e=true/\iG l e.n=false/\l.length<6:=by
 unfold aH;cases b:je e
 . simp
 .
  cases h2:iG l e.n
  .
   by_cases a:6<=l.length
   . simp[a]
   . simp[a];omega
  . simp
def gO{l:List En}{i:Nat}(e:i<l.length):jC l i=0<->je (l.getD i default)=true/\(∀j,j<i->bW (l.getD j default).n.data.toList (l.getD i default).n.data.toList=false)/\i<6:=by
 have d:(l.take i).length=i:=by rw[a0v];omega
 unfold jC;rw[KW,LQ,d];constructor
 . rintro⟨b,h2,c⟩;exact⟨b,fun j a=>by have:=h2 j a;rwa[oI l i j a]at this,c⟩
 . rintro⟨b,h2,c⟩;exact⟨b,fun j a=>by rw[oI l i j a];exact h2 j a,c⟩
def Pt(a:List UInt8):fW a a=false:=by
 cases e:fW a a
 . rfl
 . have:=(List.isPrefixOf_iff_prefix.1 e).length_le;rw[a0j]at this;simp only[a0C,a0U]at this;omega
def uU{a b:List UInt8}(h:bW a b=false):¬ a=b/\fW b a=false/\fW a b=false:=by
 simp only[bW,a2y,a0Z,ne_eq]at h;exact⟨h.1,h.2.1,h.2.2⟩
def lI(l:List En)(i:Nat):wu l i=true<->je (l.getD i default)=true/\atN l (l.getD i default).n=(i:Int)/\te l i=true:=by
 simp[wu]
def I8{l:List En}{i j:Nat}(g:i<l.length)(f:j<i)(e:(l.getD j default).n.data.toList=(l.getD i default).n.data.toList):¬ atN l (l.getD i default).n=(i:Int):=by
 intro h;unfold atN at h
 split at h
 .
  rename_i q hq;have b:q=i:=by omega
  subst b;rw[List.findIdx?_eq_some_iff_getElem]at hq;obtain⟨_,_,d⟩:=hq;have c:=d j f;have a:j<l.length:=by omega
  simp only[List.getD,List.getElem?_eq_getElem a,a1G]at e;simp only[a2z]at c;exact c (by simpa[List.getD]using e)
 . omega
def oL(l:List En):bF l=true<->∀i,i<l.length->jC l i=0:=by
 constructor
 . intro h i b;simp only[bF,a0l,a0t,a08]at h;obtain⟨f,g⟩:=h;obtain⟨e1,e2,e3⟩:=(lI l i).1 (f i (List.mem_range.2 b));refine(gO b).2 ⟨e1,fun j d=>?_,by omega⟩;obtain⟨_,_,f3⟩:=(lI l j).1 (f j (List.mem_range.2 (by omega)));simp only[te,a08,Bool.not_eq_true']at e3 f3;have u1:=e3 j (List.mem_range.2 (by omega));have u2:=f3 i (List.mem_range.2 b);simp only[bW,a2y,a0Z,ne_eq];exact⟨fun e=>I8 b d e e2,u1,u2⟩
 .
  intro h;have g:l.length<=6:=by
   rcases a1l 6 l.length with c|c
   . have:=((gO c).1 (h 6 c)).2.2;omega
   . exact c
  rw[I0 (fun i b=>?_)]
  . simpa using g
  .
   obtain⟨c1,c2,_⟩:=(gO b).1 (h i b);refine(lI l i).2 ⟨c1,uq b (fun j d e=>(uU (c2 j d)).1 (dw.1 e)) rfl,Co (fun k m=>?_)⟩;rcases Nat.lt_trichotomy k i with a|a|a
   . exact(uU (c2 k a)).2.1
   . rw[a];exact Pt _
   . exact(uU (((gO m).1 (h k m)).2.1 i a)).2.2
