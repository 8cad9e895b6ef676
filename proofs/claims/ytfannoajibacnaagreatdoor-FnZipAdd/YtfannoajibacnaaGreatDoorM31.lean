/- Texts. -/
import Derived.Test.YtfannoajibacnaaGreatDoorM28
import Derived.Test.YtfannoajibacnaaGreatDoorM30
import Derived.Lib.QuietBelow
set_option linter.all false
set_option maxRecDepth 100000
set_option maxHeartbeats 1600000
namespace Go.Proofs.YtfannoajibacnaaGreatDoor
open Go.Proofs.Tryz
open Go.RowKit Corb
def Gp(w:World) :
  CallsD prog 207 #[] .returning w fun e u' w'=>e = .returned (.tuple #[])/\u' = .returning/\w'=w:=by
 refine callsD_of_wpS func207 rfl fun a c b=>?_;apply wpS_seq;apply wpS_region;simp[wpOpsS,go_sem,recoverD,b,ntmps207,Exit.thenS];refine wpS_of_wp ?_;go_wp2_with fail;cases a
 simp_all [bodyPostS,results,results207]
def CJ(w:World) :
  CallsD prog 207 #[] (.panicking [{ v:=.iface 286 (.agg #[]),recovered:=false }]) w fun e u' w'=>e = .returned (.tuple #[])/\u' = .panicking [{ v:=.iface 286 (.agg #[]),recovered:=true }]/\Below w.heap.size w w':=by
 refine callsD_of_wpS func207 rfl fun d c b=>?_;apply wpS_seq;apply wpS_region;simp[wpOpsS,go_sem,recoverD,b,ntmps207,Exit.thenS];have a:(Instr.typeAssert (.iface 286 (.agg #[])) 20 286 true).run prog w = .ok (.tuple #[.agg #[],.bool true]) w:=by kernel_rfl
 refine wpS_of_wp ?_;go_wp2_with fail;simp[bodyPostS,results,results207];exact cC
def UnP(w:World)(b:Nat)(s:ByteArray)(d:Option (List UInt8×Nat))(e:Ending)(w':World):Prop:=
 KU b w w'/\match d with
  | none=>e = .returned (.bool false)
  | some (T,q)=>e = .returned (.bool true)/\Sou w' b s q T
def Cd(b p:Nat)(s:ByteArray)(T:List UInt8)(w:World)(h:Sou w b s p T)(j:T.length<=300)(k:p<=8*s.size)(l:s.size<=2000000)(i:dp w)(hb:1<b) :
  Calls prog 173 #[.pointer b] w (UnP w b s (fW (ak s) (8*s.size) p T)):=by
 have HP:=af (LV b p s T w h j k l i hb);have g:=h.lt;clear h j k l i hb;generalize fW (ak s) (8*s.size) p T=d at *;unfold dH at HP;unfold UnP;rcases d with _|⟨T',q⟩
 .
  go_enter_defers func173,ntmps173
  go_wp2_with fail;apply HP.mono;rintro e x1⟨a,rfl⟩;have c:=af (a0b a (show b<x1.heap.size from a0h g a.1.size));clear a HP;unfold lJ;refine leaves_cons (f:=207) (args:=#[]) (by simp) (by simp[go_sem]) ?_;apply(CJ x1).mono;rintro e u' w''⟨rfl,rfl,m⟩;have n:=c.1.later m c.2;simp[Leaves,settle,results,results173,go_sem];exact n
 .
  go_enter_defers func173,ntmps173
  go_wp2_with fail;apply HP.mono;rintro e x1⟨a,rfl,s1⟩;have c:=af (a0b a s1);clear a s1 HP;go_wp2_with fail;refine leaves_cons (f:=207) (args:=#[]) (by simp) (by simp[go_sem]) ?_;apply(Gp x1).mono;rintro e u' w''⟨rfl,rfl,rfl⟩;simp[Leaves,settle,results,results173,go_sem];exact c
def iA.take{w:World}{a:Option Addr}{l:List En}(h:iA w a l)(k:Nat):iA w a (l.take k):=by
 intro b;have c:0<l.length:=by rw[a0u]at b;omega
 obtain⟨g,o,e,f,d⟩:=h c;refine⟨g,o,e,f,fun i j=>?_⟩;rw[a0u]at j;have e1:(l.take k).getD i default=l.getD i default:=by
  simp only[List.getD];rw[List.getElem?_take_of_lt (by omega)]
 rw[e1];exact d i (by omega)
def pq(l:List En)(k i:Nat)(a:i<k):(l.take k).getD i default=l.getD i default:=by
 simp only[List.getD];rw[List.getElem?_take_of_lt a]
def jW(l:List En)(i:Nat):Int:=aK (l.take i) (l.getD i default)
def SI(l:List En)(e:En):aK l e=0∨aK l e=1∨aK l e=3∨aK l e=4:=by
 unfold aK;split<;>(try split)<;>(try split)<;>simp
def Cg(a:Option Addr)(cap:Nat)(l:List En)(n:Nat)(hn:l.length=n)(m:Int)(w:World)(h:iA w a l)(hl:(n:Int)<=1048576)(aa:(n:Int)<=(cap:Int))
  (hs:∀i,i<n->(l.getD i default).n.size<=1048576/\((l.getD i default).t.size:Int)<=9223372036854775807) (T:w.cell? ⟨2,0,none⟩=some (.int .i64 m)) :
  Calls prog 70 #[.slice a n cap] w fun e w'=>(∃c:Int,e = .returned (cX c)/\(c=0<->∀i,i<n->jW l i=0)/\(c=0∨c=1∨c=3∨c=4))/\Below w.heap.size w w':=by
 have D:=cE
 have Q:=af hs;have HR:=af h;have HM:=af T;have U:=af (World.block_lt_of_cell? _ _ T);have CM:=af (fun W (hb:Below w.heap.size w W)=>(hb.cell (p:=⟨2,0,none⟩) U).trans HM);have N:=af hn;clear h hs T hn;go_enter func70,ntmps70;go_wp2_with fail
 go_loopw [3,4,5,8] (fun _ _ _ i wr=>∃k:Nat,k<=n/\i = .int .i64 k/\(∀j,j<k->jW l j=0)/\Below w.heap.size w wr) (fun _ _ _ i _=>n-(intOf i).toNat)
 case atStart=>exact⟨0,a0g _,rfl,fun j hj=>absurd hj (by omega),a0c _ _⟩
 case round=>
  obtain⟨k,hk,rfl,B,C⟩:=hrel;have u:=af B;have b:=af C;clear B C;by_cases A:k<n
  .
   have ab:(k:Int)<(n:Int):=(by omega);have ac:(k:Int)<=(cap:Int):=(by omega);obtain⟨g,o,rfl,hg,hc⟩:=HR.later b (by have:=ae N;omega);obtain⟨c0,c1,c2,c3,c4,c5,c6,c7⟩:=hc k (by have:=ae N;omega);have E:=af A;have M:Hid ((l.take k).length=k):=by show _=_;rw[a0u,ae N];omega
   have K:=af (fun W (hW:Below w.heap.size w W)=>lA (some ⟨g,o,none⟩) cap (l.take k) k M (l.getD k default) m W ((HR.later hW).take k) (by omega)
    (fun i hi=>by rw[pq l k i hi];have:=(Q i (by omega)).1;omega) (Q k A).1 (Q k A).2 (CM W hW))
   have I:=af (SI (l.take k) (l.getD k default));have z:Hid (aK (l.take k) (l.getD k default)=jW l k):=rfl;have F:Hid (jW l k=0->∀j,j<k+1->jW l j=0):=by
    intro e j hj;by_cases S:j=k
    . rw[S];exact e
    . exact u j (by omega)
   clear hc hk u A;generalize l.getD k default=en at *;by_cases r:aK (l.take k) en=0
   .
    have H:cX (aK (l.take k) en) = .nilIface:=by rw[r];rfl
    rw[H]at K;have HX:=af (ae F (z.symm.trans r));clear H r z F I;go_wp2_with fail;obtain⟨W4,hW4⟩:∃W,W=wr.alloc (.cells en 26):=⟨_,rfl⟩;rw[←hW4];have v:Hid (Ent W4 wr.heap.size en.n en.y en.mo en.d en.h en.mi en.s en.t):=by rw[hW4];exact kA wr en.n en.y en.mo en.d en.h en.mi en.s en.t 26
    have f:Hid (Below w.heap.size w W4):=by rw[hW4];exact b.alloc b.size _
    clear hW4;obtain⟨⟨u0,u1,u2,u3,u4,u5,u6,u7⟩,_,_⟩:=ae v;have k0:=cell_regrown u0;have V:=cell_regrown u1;have X:=cell_regrown u2;have Y:=cell_regrown u3;have Z:=cell_regrown u4;have k5:=cell_regrown u5;have k6:=cell_regrown u6;have k7:=cell_regrown u7;have J:=fun d os=>Calls.regrown_of (w:=W4) (d:=d) (os:=os) (K _ (f.trans ((below_regrown W4 d os).mono f.size)));clear u0 u1 u2 u3 u4 u5 u6 u7 v;refine wp_region_quiet_below D (by kernel_rfl) ?_;repeat (quiet_step (exact J _ _))
    refine a1w ?_;intro zw G;obtain⟨⟨R,osq⟩,x⟩:=G;have q:=below_regrown W4 R osq;rw[←x]at q;have L:=af (aj f q);clear x q k0 V X Y Z k5 k6 k7 J f;go_wp2;go_roundw
    case rel=>exact⟨k+1,by have:=ae E;omega,by go_num,HX,L⟩
    case measure=>have:=ae E;simp[intOf];omega
   .
    have H:cX (aK (l.take k) en) = .iface 83 (.agg #[.int .i64 (aK (l.take k) en)]):=by unfold cX;rw[a0e r]
    have HF:=af H.symm;rw[H]at K;have P:Hid (¬ ∀i,i<n->jW l i=0):=fun e=>r (z.trans (e k E));have O:=af r;clear H r z F;generalize aK (l.take k) en=c at *;go_wp2_with fail;obtain⟨W4,hW4⟩:∃W,W=wr.alloc (.cells en 26):=⟨_,rfl⟩;rw[←hW4];have v:Hid (Ent W4 wr.heap.size en.n en.y en.mo en.d en.h en.mi en.s en.t):=by rw[hW4];exact kA wr en.n en.y en.mo en.d en.h en.mi en.s en.t 26
    have f:Hid (Below w.heap.size w W4):=by rw[hW4];exact b.alloc b.size _
    clear hW4;obtain⟨⟨u0,u1,u2,u3,u4,u5,u6,u7⟩,_,_⟩:=ae v;have k0:=cell_regrown u0;have V:=cell_regrown u1;have X:=cell_regrown u2;have Y:=cell_regrown u3;have Z:=cell_regrown u4;have k5:=cell_regrown u5;have k6:=cell_regrown u6;have k7:=cell_regrown u7;have J:=fun d os=>Calls.regrown_of (w:=W4) (d:=d) (os:=os) (K _ (f.trans ((below_regrown W4 d os).mono f.size)));clear u0 u1 u2 u3 u4 u5 u6 u7 v;refine wp_region_quiet_below D (by kernel_rfl) ?_;repeat (quiet_step (exact J _ _))
    refine a1w ?_;intro zw G;obtain⟨⟨R,osq⟩,x⟩:=G;have q:=below_regrown W4 R osq;rw[←x]at q;have L:=af (aj f q);clear x q k0 V X Y Z k5 k6 k7 J f;go_wp2;go_ret;refine⟨⟨c,?_,⟨fun e=>absurd e (ae O),fun e=>absurd e (ae P)⟩,I⟩,L⟩;rw[←ae HF];rfl
  .
   obtain rfl:k=n:=by omega
   go_wp2;go_ret;exact⟨⟨0,rfl,⟨fun _=>ae u,fun _=>rfl⟩,.inl rfl⟩,b⟩
def MW(l:List En)(x:ByteArray):fI l x=false<->∀j,j<l.length->cb (l.getD j default).n.data.toList x.data.toList=false:=by
 refine⟨fun h j a=>?_,sj⟩;cases e:cb (l.getD j default).n.data.toList x.data.toList
 . rfl
 . rw[vD a e]at h;cases h
def L9(l:List En)(e:En):aK l e=0<->fi e=true/\fI l e.n=false/\l.length<6:=by
 unfold aK;cases b:fi e
 . simp
 .
  cases h2:fI l e.n
  .
   by_cases a:6<=l.length
   . simp[a]
   . simp[a];omega
  . simp
def ij{l:List En}{i:Nat}(e:i<l.length):jW l i=0<->fi (l.getD i default)=true/\(∀j,j<i->cb (l.getD j default).n.data.toList (l.getD i default).n.data.toList=false)/\i<6:=by
 have d:(l.take i).length=i:=by rw[a0u];omega
 unfold jW;rw[L9,MW,d];constructor
 . rintro⟨b,h2,c⟩;exact⟨b,fun j a=>by have:=h2 j a;rwa[pq l i j a]at this,c⟩
 . rintro⟨b,h2,c⟩;exact⟨b,fun j a=>by rw[pq l i j a];exact h2 j a,c⟩
def QG(a:List UInt8):gr a a=false:=by
 cases e:gr a a
 . rfl
 . have:=(List.isPrefixOf_iff_prefix.1 e).length_le;rw[a0i]at this;simp only[a0C,a0U]at this;omega
def vN{a b:List UInt8}(h:cb a b=false):¬ a=b/\gr b a=false/\gr a b=false:=by
 simp only[cb,a2z,a0X,ne_eq]at h;exact⟨h.1,h.2.1,h.2.2⟩
def mn(l:List En)(i:Nat):xy l i=true<->fi (l.getD i default)=true/\atN l (l.getD i default).n=(i:Int)/\tW l i=true:=by
 simp[xy]
def JZ{l:List En}{i j:Nat}(g:i<l.length)(f:j<i)(e:(l.getD j default).n.data.toList=(l.getD i default).n.data.toList):¬ atN l (l.getD i default).n=(i:Int):=by
 intro h;unfold atN at h
 split at h
 .
  rename_i q hq;have b:q=i:=by omega
  subst b;rw[List.findIdx?_eq_some_iff_getElem]at hq;obtain⟨_,_,d⟩:=hq;have c:=d j f;have a:j<l.length:=by omega
  simp only[List.getD,List.getElem?_eq_getElem a,a1K]at e;simp only[a2A]at c;exact c (by simpa[List.getD]using e)
 . omega
def pu(l:List En):bi l=true<->∀i,i<l.length->jW l i=0:=by
 constructor
 . intro h i b;simp only[bi,a0k,a0v,a1c]at h;obtain⟨f,g⟩:=h;obtain⟨e1,e2,e3⟩:=(mn l i).1 (f i (List.mem_range.2 b));refine(ij b).2 ⟨e1,fun j d=>?_,by omega⟩;obtain⟨_,_,f3⟩:=(mn l j).1 (f j (List.mem_range.2 (by omega)));simp only[tW,a1c,Bool.not_eq_true']at e3 f3;have u1:=e3 j (List.mem_range.2 (by omega));have u2:=f3 i (List.mem_range.2 b);simp only[cb,a2z,a0X,ne_eq];exact⟨fun e=>JZ b d e e2,u1,u2⟩
 .
  intro h;have g:l.length<=6:=by
   rcases a1o 6 l.length with c|c
   . have:=((ij c).1 (h 6 c)).2.2;omega
   . exact c
  rw[JQ (fun i b=>?_)]
  . simpa using g
  .
   obtain⟨c1,c2,_⟩:=(ij b).1 (h i b);refine(mn l i).2 ⟨c1,uZ b (fun j d e=>(vN (c2 j d)).1 (dt.1 e)) rfl,DJ (fun k m=>?_)⟩;rcases Nat.lt_trichotomy k i with a|a|a
   . exact(vN (c2 k a)).2.1
   . rw[a];exact QG _
   . exact(vN (((ij m).1 (h k m)).2.1 i a)).2.2
