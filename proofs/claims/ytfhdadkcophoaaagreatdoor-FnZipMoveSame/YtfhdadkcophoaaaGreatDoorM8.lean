/- Of what the proof is made: 7 texts, one behind the other. -/
import Derived.Test.YtfhdadkcophoaaaGreatDoorM6
import Derived.OpenShut
import Derived.Laws.OwnMore
import Derived.BigQuiet
set_option linter.unusedSimpArgs false
set_option linter.unusedVariables false
set_option maxHeartbeats 4000000
namespace Go.Proofs.YtfhdadkcophoaaaGreatDoor
open Go.RowKit
def pU(k:IntKind)(w:World)(a:Option Addr)(len cap:Nat)(zs:List Int):Prop:=
 (a=none/\len=0/\cap=0/\zs=[]) ∨
 ∃x,a=some x/\len<=cap/\cap<=maxLen/\zs.length=cap/\(∀i,i<zs.length->w.cell? (x.add i)=some (.int k (zs.getD i 0)))/\∀n∈zs,(Lit.int k n).wf=true
def Src(w:World)(a:Option Addr)(len:Nat)(z:Nat->Int):Prop:=
 (∀i,0<=z i/\z i<256)/\(0<len->∃ab ao,a=some ⟨ab,ao,none⟩/\ab<w.heap.size/\∀i,i<len->w.cell? ⟨ab,ao+i,none⟩=some (.int .u8 (z i)))
theorem rI{w:World}{a:Option Addr}{len cap:Nat}{zs:List Int}(h:pU .u8 w a len cap zs):(∃z,Src w a len z)/\len<=cap/\len<=maxLen:=by
 rcases h with⟨rfl,rfl,rfl,rfl⟩|⟨x,rfl,hl,hm,hz,hc,hw⟩
 · exact⟨⟨fun _=>0,fun _=>⟨a2m _,by show(0:Int)<256;omega⟩,fun h=>absurd h (by omega)⟩,by omega,by unfold maxLen;omega⟩
 ·
  refine⟨⟨fun i=>zs.getD i 0,fun i=>?_,fun h0=>?_⟩,hl,by omega⟩
  ·
   by_cases hi:i<zs.length
   ·
    have hm:zs.getD i 0∈zs:=by simp[List.getD,hi]
    have hb:=bounds_u8 (hw _ hm);exact⟨hb.1,Int.lt_of_le_of_lt hb.2 (by omega)⟩
   · simp[List.getD,List.getElem?_eq_none (by omega:zs.length<=i)]
  ·
   obtain⟨b,off,spot⟩:=x;have hc0:=hc 0 (by omega);have hspot:spot=none:=by simpa[Addr.add]using World.cell?_spot hc0
   subst hspot;refine⟨b,off,rfl,?_,fun i hi=>?_⟩
   · have:=World.block_lt_of_cell? _ _ hc0;simpa[Addr.add]using this
   ·
    have:=hc i (by omega);by_cases e:i=0
    · subst e;simpa[Addr.add]using this
    · simpa[Addr.add,e]using this
theorem H5{w:World}{a:Option Addr}{len cap:Nat}{z:Nat->Int}(h:Src w a len z)(hl:len<=2000)(t:TypeId) :
  Rd (w.alloc (.cells #[.slice a len cap,.int .i64 0] t)) w.heap.size w.heap.size 0:=by
 refine⟨a,len,cap,0,z,hl,a0a _,a0a _,⟨by simp,by simp,by simp,by simp,by simp⟩,h.1,fun h0=>?_⟩;obtain⟨ab,ao,e,hlt,hc⟩:=h.2 h0;refine⟨ab,ao,e,hlt,fun i hi=>?_⟩;rw[World.cell?_alloc_past _ _ _ hlt];exact hc i hi
theorem Src.less{w:World}{a:Option Addr}{len:Nat}{z:Nat->Int}(h:Src w a len z)(hl:2000<len):Src w a 2000 z:=by
 refine⟨h.1,fun _=>?_⟩;obtain⟨ab,ao,e,hlt,hc⟩:=h.2 (by omega);exact⟨ab,ao,e,hlt,fun i hi=>hc i (by omega)⟩
theorem qO(a:Option Addr)(len cap:Nat)(z:Nat->Int)(w:World)(h:Src w a len z)(hc:len<=cap)(hm:len<=maxLen) :
  Calls Tryz.prog 23 #[.slice a len cap] w fun e w'=>e = .returned (.pointer (some ⟨w.heap.size,0,none⟩))/\Rd w' w.heap.size w.heap.size 0/\Below w.heap.size w w'/\w'.heap.size=w.heap.size+1:=by
 unfold maxLen at hm;by_cases hl:(2000:Int)<(len:Int)
 ·
  have h2:=af (h.less (by omega));obtain⟨ab,ao,rfl,hlt,_⟩:=h.2 (by omega);have hcc:(2000:Int)<=(cap:Int):=by omega
  clear h;go_enter Tryz.func23,Tryz.ntmps23;go_wp2;go_ret;exact⟨rfl,H5 (ae h2) (a0a _) _,(a0b _ _).alloc (a0a _) _,by simp⟩
 · have h2:=af h;clear h;go_enter Tryz.func23,Tryz.ntmps23;go_wp2;go_ret;exact⟨rfl,H5 (ae h2) (by omega) _,(a0b _ _).alloc (a0a _) _,by simp⟩
theorem Kl(B b m lb lo n cap:Nat)(v:Nat->Int)(w:World)(h:Rd w B b m)(hm:m<=100000)(n1:0<n)(n2:n<=70000)(hlb:lb≠b)(hc:∀i,i<n->w.cell? ⟨lb,lo+i,none⟩=some (.int .i64 (v i))) :
  Calls Tryz.prog 76 #[.pointer (some ⟨b,0,none⟩),.slice (some ⟨lb,lo,none⟩) n cap] w fun e w'=>∃i:Nat,i<n/\e = .returned (.int .i64 (v i))/\Rd w' B b (m+1)/\jU b w w':=by
 have n1':(1:Int)<=(n:Int):=by omega
 have n2':(n:Int)<=70000:=by omega
 have hc':=af hc;clear hc;go_enter Tryz.func76,Tryz.ntmps76;go_wp2_with (go_at_call 44;refine(br B b m _ _ h hm n1' n2').mono ?_;rintro e w' ⟨r,rfl,r0,r1,hrd,hon⟩;obtain⟨k,rfl⟩:=a0s r0;have hck:w'.cell? ⟨lb,lo+k,none⟩=some (.int .i64 (v k)):=(hon.cell (p:=⟨lb,lo+k,none⟩) hlb).trans (ae hc' k (by omega)));go_ret;exact⟨k,by omega,rfl,hrd,hon⟩
theorem Rd.alloc{w:World}{B b m:Nat}(h:Rd w B b m)(o:Obj):Rd (w.alloc o) B b m:=by
 obtain⟨a,len,cap,p,z,hl,hp,hB,htwo,hz,hsrc⟩:=h;obtain⟨c0,c1,f0,f1,hb⟩:=htwo;refine⟨a,len,cap,p,z,hl,hp,hB,⟨?_,?_,?_,?_,?_⟩,hz,fun h0=>?_⟩
 · rw[World.cell?_alloc_past _ _ _ hb];exact c0
 · rw[World.cell?_alloc_past _ _ _ hb];exact c1
 · rw[World.frozen?_alloc_past _ _ _ hb];exact f0
 · rw[World.frozen?_alloc_past _ _ _ hb];exact f1
 · simp;omega
 · obtain⟨ab,ao,e,hlt,hc⟩:=hsrc h0;refine⟨ab,ao,e,hlt,fun i hi=>?_⟩;rw[World.cell?_alloc_past _ _ _ (by omega)];exact hc i hi
theorem Rd.lt{w:World}{B b m:Nat}(h:Rd w B b m):b<w.heap.size:=by
 obtain⟨a,len,cap,p,z,hl,hp,hB,htwo,hz,hsrc⟩:=h;exact htwo.2.2.2.2
theorem Rd.mono{w:World}{B b m n:Nat}(h:Rd w B b m)(hn:m<=n):Rd w B b n:=by
 obtain⟨a,len,cap,p,z,hl,hp,hr⟩:=h;exact⟨a,len,cap,p,z,hl,by omega,hr⟩
theorem Rd.kept{w w':World}{B b m:Nat}(h:Rd w B b m)(hb:Below (b+1) w w'):Rd w' B b m:=by
 obtain⟨a,len,cap,p,z,hl,hp,hB,htwo,hz,hsrc⟩:=h;obtain⟨c0,c1,f0,f1,hlt⟩:=htwo;refine⟨a,len,cap,p,z,hl,hp,hB,⟨?_,?_,?_,?_,?_⟩,hz,fun h0=>?_⟩
 · exact(hb.cell (p:=⟨b,0,none⟩) (a0l b)).trans c0
 · exact(hb.cell (p:=⟨b,1,none⟩) (a0l b)).trans c1
 · exact(hb.frozen (p:=⟨b,0,none⟩) (a0l b)).trans f0
 · exact(hb.frozen (p:=⟨b,1,none⟩) (a0l b)).trans f1
 · exact a0g hlt hb.size
 · obtain⟨ab,ao,e,hlt,hc⟩:=hsrc h0;refine⟨ab,ao,e,hlt,fun i hi=>?_⟩;exact(hb.cell (p:=⟨ab,ao+i,none⟩) (by show ab<b+1;omega)).trans (hc i hi)
theorem jU.grown{b:Nat}{w w':World}(h:jU b w w'):w.grownBy w' (some b):=
 ⟨h.1.os,h.1.tape,h.1.output,by rw[h.2.2];exact a0a _,fun k _ hk=>h.2.1 k (fun e=>hk (by rw[e]))⟩
theorem ts{w w':World}{b base:Nat}{e:TypeId}{size:Nat}{v:Value}{n:Nat}{xs:List Value}(h:w.ownsRow base e size v n xs)(ho:jU b w w')(hb:b<base):w'.ownsRow base e size v n xs:=
 h.kept ho.grown (by
  cases hv:v.ownBlock with
  | none=>exact .inl rfl
  | some k=>exact .inr (fun e=>by have:=(h.lt k hv).1;cases e;omega))
theorem Rd.grown{w w':World}{B b m:Nat}{row:Option Nat}(h:Rd w B b m)(hg:w.grownBy w' row)(hr:∀k,row=some k->b<k):Rd w' B b m:=by
 have hlt:=h.lt;exact h.kept ((a0b _ _).grown hg (by omega) (fun k e=>hr k e))
theorem Dq(w:World)(l:List Int)(t:TypeId):∀i,i<l.length->(w.alloc (.cells (l.map (Value.int .i64)).toArray t)).cell? ⟨w.heap.size,0+i,none⟩=some (.int .i64 (l.getD i 0)):=by
 intro i hi;simp[hi]
theorem Src.later{w w':World}{a:Option Addr}{len:Nat}{z:Nat->Int}(h:Src w a len z)(hb:Below w.heap.size w w'):Src w' a len z:=by
 refine⟨h.1,fun h0=>?_⟩;obtain⟨ab,ao,e,hlt,hc⟩:=h.2 h0;exact⟨ab,ao,e,a0g hlt hb.size,fun i hi=>(hb.cell (p:=⟨ab,ao+i,none⟩) hlt).trans (hc i hi)⟩
theorem ag{w w1 w2:World}(h:Below w.heap.size w w1)(k:Below w1.heap.size w1 w2):Below w.heap.size w w2:=h.trans (k.mono h.size)
def stF(L G k:Nat):Nat×Nat:=if k<G then(L+k,0)else(L+(G+k%G)*p2 (k/G-1),k/G-1)
theorem I1(n:Int)(h : -9223372036854775808<=n/\n<=9223372036854775807):wrap64 n=n:=by unfold wrap64;omega
theorem xT(L G M k:Nat)(w:World)(hL:L<=3)(hG:1<=G)(hG4:G<=4)(hk:k/G<=15)(hk2:k<=60) :
  Calls Tryz.prog 188 #[.agg #[.int .i64 (L:Nat),.int .i64 (G:Nat),.int .i64 (M:Nat)],.int .i64 (k:Nat)] w fun e w'=>e = .returned (.tuple #[.int .i64 ((stF L G k).1:Nat),.int .i64 ((stF L G k).2:Nat)])/\Below w.heap.size w w':=by
 have hLI:(L:Int)<=3:=by omega
 have hGI:(1:Int)<=(G:Int):=by omega
 have hG4I:(G:Int)<=4:=by omega
 have hkI:(k:Int)<=60:=by omega
 by_cases hlt:k<G
 ·
  have hltI:(k:Int)<(G:Int):=by omega
  have e:stF L G k=(L+k,0):=by unfold stF;rw[a0d hlt]
  rw[e];clear hk hk2 hlt hL hG hG4 e;go_enter Tryz.func188,Tryz.ntmps188;go_wp2
  go_ret2
  exact⟨by simp,(a0b _ _).alloc (a0a _) _⟩
 ·
  have hltI:¬ (k:Int)<(G:Int):=by omega
  obtain⟨q,hq⟩:∃q,k/G=q:=⟨_,rfl⟩;have hq1:1<=q:=by rw[←hq];exact(Nat.le_div_iff_mul_le hG).2 (by omega)
  obtain⟨b,hb⟩:∃b,q-1=b:=⟨_,rfl⟩;obtain⟨r,hr⟩:∃r,k%G=r:=⟨_,rfl⟩;have hr4:r<4:=by rw[←hr];exact a0g (a1Q _ hG) hG4
  have hqI:(k:Int)/(G:Int)=(q:Int):=by rw[←hq];exact(Int.natCast_ediv k G).symm
  have hbI:(q:Int)-1=(b:Int):=by omega
  have hrI:(k:Int)%(G:Int)=(r:Int):=by rw[←hr];exact(Int.natCast_emod k G).symm
  have hb14:(b:Int)<=14:=by omega
  have hrI4:(r:Int)<4:=by omega
  have e:stF L G k=(L+(G+r)*p2 b,b):=by unfold stF;rw[a0e hlt,hq,hb,hr]
  have HW:Hid (wrap64 ((L:Int)+wrap64 (((G:Int)+(r:Int))*2 ^ b))=((L+(G+r)*p2 b:Nat):Int)):=by
   show _=_;have h1:p2 b<=p2 14:=a0Q (by omega) (by omega);have h2:p2 14=16384:=by decide
   have h3:(G+r)*p2 b<=7*16384:=a14 (by omega) (by omega);have h4:((G:Int)+(r:Int))*2 ^ b=(((G+r)*p2 b:Nat):Int):=by rw[a2S,iT];simp
   rw[h4];generalize (G+r)*p2 b=Q at *
   rw[I1 (Q:Int) (by omega),I1 ((L:Int)+(Q:Int)) (by omega)];omega
  rw[e];clear hk hk2 hlt hL hG hG4 e hq hb hr hr4 hq1;go_enter Tryz.func188,Tryz.ntmps188;go_wp2
  go_quiet (fail)
  go_wp2
  go_ret2
  exact⟨by rw[←ae HW];rfl,below_drewN ((a0b _ _).alloc (a0a _) _) _⟩
theorem LP(B b m lb lo n cap:Nat)(v:Nat->ByteArray)(w:World)(h:Rd w B b m)(hm:m<=100000)(n1:0<n)(n2:n<=70000)(hlb:lb≠b)(hc:∀i,i<n->w.cell? ⟨lb,lo+i,none⟩=some (.string (v i))) :
  Calls Tryz.prog 75 #[.pointer (some ⟨b,0,none⟩),.slice (some ⟨lb,lo,none⟩) n cap] w fun e w'=>∃i:Nat,i<n/\e = .returned (.string (v i))/\Rd w' B b (m+1)/\jU b w w':=by
 have n1':(1:Int)<=(n:Int):=by omega
 have n2':(n:Int)<=70000:=by omega
 have hc':=af hc;clear hc;go_enter Tryz.func75,Tryz.ntmps75;go_wp2_with (go_at_call 44;refine(br B b m _ _ h hm n1' n2').mono ?_;rintro e w' ⟨r,rfl,r0,r1,hrd,hon⟩;obtain⟨k,rfl⟩:=a0s r0;have hck:w'.cell? ⟨lb,lo+k,none⟩=some (.string (v k)):=(hon.cell (p:=⟨lb,lo+k,none⟩) hlb).trans (ae hc' k (by omega)));go_ret;exact⟨k,by omega,rfl,hrd,hon⟩
theorem Du(x n o:Nat)(T:Nat)(h:x*n+o=T):(x+x)*(n/2)+(if n%2=1 then o+x else o)=T:=by
 have h1:(x+x)*(n/2)=x*(2*(n/2)):=by rw[←Nat.two_mul,a07 2 x,a1C]
 rw[h1]
 split
 ·
  rename_i h2;have:2*(n/2)+1=n:=by omega
  have h3:x*n=x*(2*(n/2))+x:=by rw[←this,a12,a2n,this]
  omega
 ·
  rename_i h2;have:2*(n/2)=n:=by omega
  rw[this];exact h
theorem Kf(x n o T:Nat)(hn:0<n)(h:x*n+o=T):x<=T/\o+x<=T:=by
 have:x*1<=x*n:=Nat.mul_le_mul_left x hn;omega
theorem mc(s:ByteArray)(n:Int)(w:World)(n0:0<=n)(n1:n<=1000)(hs:s.size<=100) :
  Calls Tryz.prog 77 #[.string s,.int .i64 n] w fun e w'=>(∃t:ByteArray,e = .returned (.string t)/\t.size=s.size*n.toNat)/\w'=w:=by
 obtain⟨N,rfl⟩:=a0s n0;rw[a0q];have hT:s.size*N<=100*1000:=a14 hs (by omega);generalize hTT:s.size*N=T at *
 have HT:=af hTT;clear hTT;go_enter Tryz.func77,Tryz.ntmps77;go_wp2
 go_loop [0,1,5] (fun s' n' o'=>∃(x:ByteArray) (k:Nat) (o:ByteArray),s' = .string x/\n' = .int .i64 k/\o' = .string o/\k<=N/\x.size*k+o.size=T/\x.size<=2*T+100) (fun _ n' _=>(intOf n').toNat)
 case atStart=>exact⟨s,N,ByteArray.empty,rfl,rfl,rfl,a0a _,by have:=ae HT;simpa using this,by omega⟩
 case round=>
  obtain⟨x,k,o,rfl,rfl,rfl,hk,hT',hx⟩:=hrel;by_cases hp:(0:Int)<(k:Int)
  ·
   have hle:=Kf x.size k o.size T (by omega) hT';have hst:=af (Du x.size k o.size T hT');have HK:=af hk;have hk':(k:Int)<=1000:=by omega
   clear hT' hk;by_cases hodd:(k:Int)%2=1
   ·
    have ho':=af hodd;go_wp2
    go_round
    case rel=>
     have h2:=ae hst;rw[a0d (by have:=ae ho';omega)]at h2;exact⟨x++x,k/2,o++x,rfl,by go_num,rfl,by have:=ae HK;omega,by rw[a0z,a0z];exact h2,by rw[a0z];omega⟩
    case measure=>simp[intOf];omega
   ·
    have ho':=af hodd;have hev:(k:Int)%2=0:=by omega
    clear hodd;go_wp2
    go_round
    case rel=>
     have h2:=ae hst;rw[a0e (by have:=ae ho';omega)]at h2;exact⟨x++x,k/2,o,rfl,by go_num,rfl,by have:=ae HK;omega,by rw[a0z];exact h2,by rw[a0z];omega⟩
    case measure=>simp[intOf];omega
  ·
   have hk0:k=0:=by omega
   subst hk0;have HT':=af hT';clear hT';go_wp2;go_ret;exact⟨⟨o,rfl,by have:=ae HT';omega⟩,rfl⟩
def Kn(b:Nat)(w w':World):Prop:=Below b w w'/\(∀k,k<w.heap.size->k≠b->w'.heap[k]?=w.heap[k]?)/\w.heap.size<=w'.heap.size
theorem Kn.trans{b:Nat}{u v w:World}(h:Kn b u v)(k:Kn b v w):Kn b u w:=
 ⟨h.1.trans k.1,fun i hi hb=>(k.2.1 i (a0g hi h.2.2) hb).trans (h.2.1 i hi hb),a0D h.2.2 k.2.2⟩
theorem jU.kn{b:Nat}{w w':World}(h:jU b w w'):Kn b w w':=⟨h.1,fun k _ hk=>h.2.1 k hk,by rw[h.2.2];exact a0a _⟩
theorem dZ{b:Nat}(w:World)(o:Obj)(hb:b<w.heap.size):Kn b w (w.alloc o):=
 ⟨(a0b _ _).alloc (a0u hb) _,fun k hk _=>((a0b w.heap.size w).alloc (a0a _) o).block k hk,by simp⟩
theorem Kj(B b m lb lo n cap:Nat)(v:Nat->ByteArray)(w:World)(h:Rd w B b m)(hm:m<=100000)(n1:0<n)(n2:n<=70000)(hlb:lb≠b)(hc:∀i,i<n->w.cell? ⟨lb,lo+i,none⟩=some (.string (v i))) :
  Calls Tryz.prog 75 #[.pointer (some ⟨b,0,none⟩),.slice (some ⟨lb,lo,none⟩) n cap] w fun e w'=>∃i:Nat,i<n/\e = .returned (.string (v i))/\Rd w' B b (m+1)/\jU b w w':=by
 have n1':(1:Int)<=(n:Int):=by omega
 have n2':(n:Int)<=70000:=by omega
 have hc':=af hc;clear hc;go_enter Tryz.func75,Tryz.ntmps75;go_wp2_with (go_at_call 44;refine(br B b m _ _ h hm n1' n2').mono ?_;rintro e w' ⟨r,rfl,r0,r1,hrd,hon⟩;obtain⟨k,rfl⟩:=a0s r0;have hck:w'.cell? ⟨lb,lo+k,none⟩=some (.string (v k)):=(hon.cell (p:=⟨lb,lo+k,none⟩) hlb).trans (ae hc' k (by omega)));go_ret;exact⟨k,by omega,rfl,hrd,hon⟩
theorem zH(w:World)(l:List ByteArray)(t:TypeId):∀i,i<l.length->(w.alloc (.cells (l.map Value.string).toArray t)).cell? ⟨w.heap.size,0+i,none⟩=some (.string (l.getD i ByteArray.empty)):=by
 intro i hi;simp[hi]
theorem Lb(B b m n lb:Nat)(l:List ByteArray)(t:TypeId)(w:World)(hb:w.heap.size=lb)(hn:l.length=n)(h:Rd w B b m)(hm:m<=100000)(n1:0<n)(n2:n<=70000) :
  Calls Tryz.prog 75 #[.pointer (some ⟨b,0,none⟩),.slice (some ⟨lb,0,none⟩) n n] (w.alloc (.cells (l.map Value.string).toArray t)) fun e w'=>∃v:ByteArray,v∈l/\e = .returned (.string v)/\Rd w' B b (m+1)/\Kn b w w':=by
 subst hn hb;have hlt:=h.lt;refine(Kj B b m w.heap.size 0 l.length l.length (fun i=>l.getD i ByteArray.empty) _ (h.alloc _) hm n1 n2 (a2o hlt) (zH w l t)).mono ?_;rintro e w' ⟨i,hi,he,hr,ho⟩;refine⟨l.getD i ByteArray.empty,?_,he,hr,(dZ w _ hlt).trans ho.kn⟩;simp[List.getD,hi]
def cU:List ByteArray:=[⟨#[97]⟩,⟨#[98,46,116,120,116]⟩,⟨#[100,105,114,47,97]⟩,⟨#[100,105,114,47,98]⟩,⟨#[120,45,121,95,122]⟩,⟨#[97,47,98,47,99,47,100]⟩,⟨#[114,101,97,100,109,101]⟩]
def fT:List ByteArray:=[⟨#[]⟩,⟨#[47]⟩,⟨#[97,47]⟩,⟨#[46,46]⟩,⟨#[97,47,46,46,47,98]⟩,⟨#[65]⟩,⟨#[97,32,98]⟩,⟨#[101,108,101,118,101,110,108,101,116,116,101]⟩,⟨#[97,47,98,47,99,47,100,47,101]⟩]
theorem oQ(B b m:Nat)(w:World)(h:Rd w B b m)(hm:m<=99000) :
  Calls Tryz.prog 72 #[.pointer (some ⟨b,0,none⟩)] w fun e w'=>∃v,v∈cU/\e = .returned (.string v)/\Rd w' B b (m+1)/\Kn b w w':=by
 go_enter Tryz.func72,Tryz.ntmps72;go_wp2_with fail;refine(Lb B b m 7 w.heap.size cU 9 w rfl rfl h (by omega) (by omega) (by omega)).mono ?_;rintro e w1 ⟨v,hv,rfl,hr,hk⟩;have HV:=af hv;clear hv;go_wp2;go_ret;exact⟨v,ae HV,rfl,hr,hk⟩
theorem qN(B b m:Nat)(w:World)(h:Rd w B b m)(hm:m<=98000) :
  Calls Tryz.prog 45 #[.pointer (some ⟨b,0,none⟩)] w fun e w'=>∃v,v∈fT++cU/\e = .returned (.string v)/\Rd w' B b (m+2)/\Kn b w w':=by
 go_enter Tryz.func45,Tryz.ntmps45;go_wp2_with fail;refine(br B b m 6 _ h (by omega) (by omega) (by omega)).mono ?_;rintro e w1 ⟨r,rfl,r0,r1,hrd,hon⟩;have R1:=af hrd;have K1:=af hon.kn;clear h hrd hon;by_cases hr:r=0
 · subst hr;go_wp2_with fail;refine(Lb B b _ 9 w1.heap.size fT 9 w1 rfl rfl (ae R1) (by omega) (by omega) (by omega)).mono ?_;rintro e w2 ⟨v,hv,rfl,hr,hk⟩;have HV:=af hv;clear hv;go_wp2;go_ret;exact⟨v,a0S.2 (.inl (ae HV)),rfl,hr,(ae K1).trans hk⟩
 · go_wp2_with fail;refine(oQ B b _ _ (ae R1) (by omega)).mono ?_;rintro e w2 ⟨v,hv,rfl,hr,hk⟩;have HV:=af hv;clear hv;go_wp2;go_ret;exact⟨v,a0S.2 (.inr (ae HV)),rfl,hr,(ae K1).trans hk⟩
theorem iY(k:Nat)(n:Int)(h0:0<=n)(h1:n<9223372036854775808)(hk:k<=20):bits .and .i64 n ((2 ^ k-1:Nat):Int)=n%(2 ^ k:Nat):=by
 obtain⟨a,rfl⟩:=a0s h0;have hp:2 ^ k<=2 ^ 20:=a0Q (by omega) hk;rw[kk a (2 ^ k-1) (by omega) (by omega),Nat.and_two_pow_sub_one_eq_mod];omega
theorem F3{n:Int}(h0:0<=n):gOk n=bL (gY n) (gM n) (gD n) (gH n) (gI n) (gS n):=by
 cases h:inB n 0 4294967295
 · have hb:=eC.1 h;have:bL (gY n) (gM n) (gD n) (gH n) (gI n) (gS n)=false:=Iw (.inr (.inl (by unfold gY;omega)));rw[this];simp[gOk,h]
 · simp[gOk,h]
theorem oe(n:Int)(w:World)(hn:(Lit.int .i64 n).wf=true) :
  Calls Tryz.prog 94 #[.int .i64 n] w fun e w'=>e = .returned (.tuple #[stG n,.bool (gOk n)])/\Below w.heap.size w w':=by
 have hb:=bounds_i64 hn;obtain⟨lo,hi⟩:=hb;by_cases h0:0<=n
 ·
  have a1:bits .and .i64 (n/2097152) 15=gM n:=iY 4 _ (by omega) (by omega) (by omega);have a2:bits .and .i64 (n/65536) 31=gD n:=iY 5 _ (by omega) (by omega) (by omega);have a3:bits .and .i64 (n/2048) 31=gH n:=iY 5 _ (by omega) (by omega) (by omega);have a4:bits .and .i64 (n/32) 63=gI n:=iY 6 _ (by omega) (by omega) (by omega);have a5:bits .and .i64 n 31=n%32:=iY 5 _ (by omega) (by omega) (by omega);have hk:=F3 h0;have gy:1980+n/33554432=gY n:=by unfold gY;omega
  have gs:2*(n%32)=gS n:=rfl;cases ho:bL (gY n) (gM n) (gD n) (gH n) (gI n) (gS n)
  · rw[ho]at hk;rw[hk,Iu hk];go_enter Tryz.func94,Tryz.ntmps94;go_wp2_with fail;refine(cO _ _ _ _ _ _ _).mono ?_;rintro e w2 ⟨rfl,hb2⟩;rw[ho];have hx:=((eH w 0 0 0 0 0 0 24).later ((a0b _ _).alloc (a0a _) _) (by simp)).later hb2 (by simp;omega);obtain⟨⟨z0,z1,z2,z3,z4,z5⟩,_,_⟩:=hx.store 0 0 0 0 0 0;obtain⟨⟨c0,c1,c2,c3,c4,c5⟩,⟨f0,f1,f2,f3,f4,f5⟩,hlt⟩:=hx;go_wp2;refine a0w (v:=.tuple #[.agg #[.int .i64 0,.int .i64 0,.int .i64 0,.int .i64 0,.int .i64 0,.int .i64 0],.bool false]) (by simp[results,Tryz.results94,go_sem,z0,z1,z2,z3,z4,z5]) rfl ⟨rfl,?_⟩;exact oB ((((a0b _ _).alloc (a0a _) _).alloc (by simp) _).trans (hb2.mono (by simp;omega))) (a0a _) _ _ _ _ _ _
  ·
   rw[ho]at hk;rw[hk,KJ hk];go_enter Tryz.func94,Tryz.ntmps94;go_wp2_with fail;refine(cO _ _ _ _ _ _ _).mono ?_;rintro e w2 ⟨rfl,hb2⟩;rw[ho];have hx:=((eH w 0 0 0 0 0 0 24).later ((a0b _ _).alloc (a0a _) _) (by simp)).later hb2 (by simp;omega);have hz:=(eH (w.alloc (.cells #[.int .i64 0,.int .i64 0,.int .i64 0,.int .i64 0,.int .i64 0,.int .i64 0] 24)) (gY n) (gM n) (gD n) (gH n) (gI n) (gS n) 24).later hb2 (by simp);have hz':Six w2 (w.heap.size+1) (gY n) (gM n) (gD n) (gH n) (gI n) (gS n):=by simpa using hz
   clear hz;obtain⟨⟨z0,z1,z2,z3,z4,z5⟩,_,_⟩:=hx.store (gY n) (gM n) (gD n) (gH n) (gI n) (gS n);obtain⟨⟨c0,c1,c2,c3,c4,c5⟩,⟨f0,f1,f2,f3,f4,f5⟩,hlt⟩:=hx;obtain⟨⟨d0,d1,d2,d3,d4,d5⟩,_,_⟩:=hz';go_wp2;refine a0w (v:=.tuple #[.agg #[.int .i64 (gY n),.int .i64 (gM n),.int .i64 (gD n),.int .i64 (gH n),.int .i64 (gI n),.int .i64 (gS n)],.bool true]) (by simp[results,Tryz.results94,go_sem,z0,z1,z2,z3,z4,z5]) rfl ⟨rfl,?_⟩;exact oB ((((a0b _ _).alloc (a0a _) _).alloc (by simp) _).trans (hb2.mono (by simp;omega))) (a0a _) _ _ _ _ _ _
 ·
  have hk:gOk n=false:=by simp[gOk,inB,h0]
  rw[hk,Iu hk];have hy:1980+n/33554432<1980:=by omega
  go_enter Tryz.func94,Tryz.ntmps94;go_wp2_with fail;refine(cO _ _ _ _ _ _ _).mono ?_;rintro e w2 ⟨rfl,hb2⟩;rw[Iw (.inl hy)];have hx:=((eH w 0 0 0 0 0 0 24).later ((a0b _ _).alloc (a0a _) _) (by simp)).later hb2 (by simp;omega);obtain⟨⟨z0,z1,z2,z3,z4,z5⟩,_,_⟩:=hx.store 0 0 0 0 0 0;obtain⟨⟨c0,c1,c2,c3,c4,c5⟩,⟨f0,f1,f2,f3,f4,f5⟩,hlt⟩:=hx;go_wp2;refine a0w (v:=.tuple #[.agg #[.int .i64 0,.int .i64 0,.int .i64 0,.int .i64 0,.int .i64 0,.int .i64 0],.bool false]) (by simp[results,Tryz.results94,go_sem,z0,z1,z2,z3,z4,z5]) rfl ⟨rfl,?_⟩;exact oB ((((a0b _ _).alloc (a0a _) _).alloc (by simp) _).trans (hb2.mono (by simp;omega))) (a0a _) _ _ _ _ _ _
def Kb(b:Nat)(w w':World):Prop:=Below b w w'/\(∀k,k<w.heap.size->k≠b->w'.heap[k]?=w.heap[k]?)/\w.heap.size<=w'.heap.size
theorem Kb.refl(b:Nat)(w:World):Kb b w w:=⟨a0b _ _,fun _ _ _=>rfl,a0a _⟩
theorem Kb.trans{b:Nat}{u v w:World}(h:Kb b u v)(k:Kb b v w):Kb b u w:=
 ⟨h.1.trans k.1,fun i hi hb=>(k.2.1 i (a0g hi h.2.2) hb).trans (h.2.1 i hi hb),a0D h.2.2 k.2.2⟩
theorem jU.kb{b:Nat}{w w':World}(h:jU b w w'):Kb b w w':=⟨h.1,fun k _ hk=>h.2.1 k hk,by rw[h.2.2];exact a0a _⟩
theorem mZ{b:Nat}(w:World)(o:Obj)(hb:b<w.heap.size):Kb b w (w.alloc o):=
 ⟨(a0b _ _).alloc (a0u hb) _,fun k hk _=>((a0b w.heap.size w).alloc (a0a _) o).block k hk,by simp⟩
theorem Kb.below{b B:Nat}{w w':World}(h:Kb b w w')(hB:B<=b):Below B w w':=h.1.mono hB
theorem Six.kb{w w':World}{b c:Nat}{y mo d h mi s:Int}(k:Six w c y mo d h mi s)(hk:Kb b w w')(hc:c≠b):Six w' c y mo d h mi s:=by
 obtain⟨⟨c0,c1,c2,c3,c4,c5⟩,⟨f0,f1,f2,f3,f4,f5⟩,hlt⟩:=k;have e:=hk.2.1 c hlt hc;refine⟨⟨?_,?_,?_,?_,?_,?_⟩,⟨?_,?_,?_,?_,?_,?_⟩,a0g hlt hk.2.2⟩
 · exact(World.cell?_of_block (w:=w) e).trans c0
 · exact(World.cell?_of_block (w:=w) e).trans c1
 · exact(World.cell?_of_block (w:=w) e).trans c2
 · exact(World.cell?_of_block (w:=w) e).trans c3
 · exact(World.cell?_of_block (w:=w) e).trans c4
 · exact(World.cell?_of_block (w:=w) e).trans c5
 · exact(World.frozen?_of_block (w:=w) e).trans f0
 · exact(World.frozen?_of_block (w:=w) e).trans f1
 · exact(World.frozen?_of_block (w:=w) e).trans f2
 · exact(World.frozen?_of_block (w:=w) e).trans f3
 · exact(World.frozen?_of_block (w:=w) e).trans f4
 · exact(World.frozen?_of_block (w:=w) e).trans f5
theorem iP{b c o:Nat}{a w:World}(h:Kb b a w)(v:Value)(hc:a.heap.size<=c)(hb:b<a.heap.size):Kb b a (w.setCell ⟨c,o,none⟩ v):=
 ⟨ah h.1 (a0D (a0u hb) hc) _,fun k hk hkb=>(a0I w ⟨c,o,none⟩ v k (by show k≠c;omega)).trans (h.2.1 k hk hkb),by simpa using h.2.2⟩
theorem ol{b c:Nat}{a w:World}(h:Kb b a w)(hc:a.heap.size<=c)(hb:b<a.heap.size)(v0 v1 v2 v3 v4 v5:Value):Kb b a ((((((w.setCell ⟨c,0,none⟩ v0).setCell ⟨c,1,none⟩ v1).setCell ⟨c,2,none⟩ v2).setCell ⟨c,3,none⟩ v3).setCell ⟨c,4,none⟩ v4).setCell ⟨c,5,none⟩ v5):=
 iP (iP (iP (iP (iP (iP h _ hc hb) _ hc hb) _ hc hb) _ hc hb) _ hc hb) _ hc hb
theorem iU{w:World}{B b m c o:Nat}(h:Rd w B b m)(v:Value)(hc:b<c):Rd (w.setCell ⟨c,o,none⟩ v) B b m:=
 h.kept (ah (a0b _ _) (by omega) _)
theorem oy{w:World}{B b m c:Nat}(h:Rd w B b m)(hc:b<c)(v0 v1 v2 v3 v4 v5:Value):Rd ((((((w.setCell ⟨c,0,none⟩ v0).setCell ⟨c,1,none⟩ v1).setCell ⟨c,2,none⟩ v2).setCell ⟨c,3,none⟩ v3).setCell ⟨c,4,none⟩ v4).setCell ⟨c,5,none⟩ v5) B b m:=
 iU (iU (iU (iU (iU (iU h _ hc) _ hc) _ hc) _ hc) _ hc) _ hc
theorem rm(B b m n lb:Nat)(l:List Int)(t:TypeId)(w:World)(hb:w.heap.size=lb)(hn:l.length=n)(h:Rd w B b m)(hm:m<=100000)(n1:0<n)(n2:n<=70000) :
  Calls Tryz.prog 76 #[.pointer (some ⟨b,0,none⟩),.slice (some ⟨lb,0,none⟩) n n] (w.alloc (.cells (l.map (Value.int .i64)).toArray t)) fun e w'=>∃v:Int,v∈l/\e = .returned (.int .i64 v)/\Rd w' B b (m+1)/\Kb b w w':=by
 subst hn hb;have hlt:=h.lt;refine(Kl B b m w.heap.size 0 l.length l.length (fun i=>l.getD i 0) _ (h.alloc _) hm n1 n2 (a2o hlt) (Dq w l t)).mono ?_;rintro e w' ⟨i,hi,he,hr,ho⟩;refine⟨l.getD i 0,?_,he,hr,(mZ w _ hlt).trans ho.kb⟩;simp[List.getD,hi]
def DrS(y mo d h mi s:Int):Prop:=(1900<=y/\y<=2108)/\(0<=mo/\mo<=13)/\(0<=d/\d<=32)/\(0<=h/\h<=23)/\(0<=mi/\mi<=59) /\ -2<=s/\s<=60
theorem Jr(y m:Int):28<=eT y m:=by
 unfold eT;repeat' split;all_goals omega
theorem FD{y mo d h mi s:Int}(y0:1980<=y)(y1:y<=2107)(m0:0<=mo)(m1:mo<12)(d0:0<=d)(d1:d<28)(h0:0<=h)(h1:h<24)(i0:0<=mi)(i1:mi<60)(s0:0<=s)(s1:s<30):bL y (1+mo) (1+d) h mi (2*s)=true:=by
 have:=Jr y (1+mo);simp only[bL,inB,a0j,a0o];omega
theorem lR(B b m:Nat)(w:World)(h:Rd w B b m)(hm:m<=99000) :
  Calls Tryz.prog 73 #[.pointer (some ⟨b,0,none⟩)] w fun e w'=>∃y mo d h mi s,e = .returned (.agg #[.int .i64 y,.int .i64 mo,.int .i64 d,.int .i64 h,.int .i64 mi,.int .i64 s])/\(DrS y mo d h mi s/\bL y mo d h mi s=true)/\Rd w' B b (m+6)/\Kb b w w':=by
 have hlt:=h.lt;have K0:=af (mZ w (.cells #[.int .i64 0,.int .i64 0,.int .i64 0,.int .i64 0,.int .i64 0,.int .i64 0] 24) hlt);have X0:=af (eH w 0 0 0 0 0 0 24);have R0:=af (h.alloc (.cells #[.int .i64 0,.int .i64 0,.int .i64 0,.int .i64 0,.int .i64 0,.int .i64 0] 24));have hne:w.heap.size≠b:=by omega
 have HNE:=af hne;have HLT:=af hlt;have HM:=af hm;clear h hne hlt hm;go_enter Tryz.func73,Tryz.ntmps73;go_wp2_with fail;refine(rm B b m 4 (w.heap.size+1) [1980,2000,2024,2107] 3 (w.alloc (.cells #[.int .i64 0,.int .i64 0,.int .i64 0,.int .i64 0,.int .i64 0,.int .i64 0] 24)) (by simp) rfl (ae R0) (by have:=ae HM;omega) (by omega) (by omega)).mono ?_;rintro e w1 ⟨y,hy,rfl,r1,k1⟩;have K1:=af ((ae K0).trans k1);have X1:=af ((ae X0).kb k1 (ae HNE));have R1:=af r1;clear K0 X0 R0 k1 r1;have y0:1980<=y:=by simp at hy;omega
 have y1:y<=2107:=by simp at hy;omega
 clear hy;go_wp2_with fail;refine(br B b _ 12 _ (ae R1) (by have:=ae HM;omega) (by omega) (by omega)).mono ?_;rintro e w2 ⟨mo,rfl,m0,m1,r2,k2⟩;have K2:=af ((ae K1).trans k2.kb);have X2:=af ((ae X1).kb k2.kb (ae HNE));have R2:=af r2;clear K1 X1 R1 k2 r2;go_wp2_with fail;refine(br B b _ 28 _ (ae R2) (by have:=ae HM;omega) (by omega) (by omega)).mono ?_;rintro e w3 ⟨d,rfl,d0,d1,r3,k3⟩;have K3:=af ((ae K2).trans k3.kb);have X3:=af ((ae X2).kb k3.kb (ae HNE));have R3:=af r3;clear K2 X2 R2 k3 r3;go_wp2_with fail;refine(br B b _ 24 _ (ae R3) (by have:=ae HM;omega) (by omega) (by omega)).mono ?_;rintro e w4 ⟨h,rfl,h0,h1,r4,k4⟩;have K4:=af ((ae K3).trans k4.kb);have X4:=af ((ae X3).kb k4.kb (ae HNE));have R4:=af r4;clear K3 X3 R3 k4 r4;go_wp2_with fail;refine(br B b _ 60 _ (ae R4) (by have:=ae HM;omega) (by omega) (by omega)).mono ?_;rintro e w5 ⟨mi,rfl,i0,i1,r5,k5⟩;have K5:=af ((ae K4).trans k5.kb);have X5:=af ((ae X4).kb k5.kb (ae HNE));have R5:=af r5;clear K4 X4 R4 k5 r5;go_wp2_with fail;refine(br B b _ 30 _ (ae R5) (by have:=ae HM;omega) (by omega) (by omega)).mono ?_;rintro e w6 ⟨s,rfl,s0,s1,r6,k6⟩;have K6:=af ((ae K5).trans k6.kb);have X6:=af ((ae X5).kb k6.kb (ae HNE));have R6:=af r6;clear K5 X5 R5 k6 r6;have HZ:=af ((ae X6).store y (1+mo) (1+d) h mi (2*s));obtain⟨⟨c0,c1,c2,c3,c4,c5⟩,⟨f0,f1,f2,f3,f4,f5⟩,hl6⟩:=ae X6;clear X6;go_wp2;obtain⟨⟨z0,z1,z2,z3,z4,z5⟩,_,_⟩:=ae HZ;refine a0w (v:=.agg #[.int .i64 y,.int .i64 (1+mo),.int .i64 (1+d),.int .i64 h,.int .i64 mi,.int .i64 (2*s)]) (by simp[results,Tryz.results73,go_sem,z0,z1,z2,z3,z4,z5]) rfl ⟨y,1+mo,1+d,h,mi,2*s,rfl,⟨⟨by omega,by omega,by omega,by omega,by omega,by omega⟩,FD y0 y1 m0 m1 d0 d1 h0 h1 i0 i1 s0 s1⟩,?_,?_⟩
 · exact oy (ae R6) (ae HLT) _ _ _ _ _ _
 · exact ol (ae K6) (a0a _) (ae HLT) _ _ _ _ _ _
theorem na(B b m:Nat)(w:World)(h:Rd w B b m)(hm:m<=99000) :
  Calls Tryz.prog 73 #[.pointer (some ⟨b,0,none⟩)] w fun e w'=>∃y mo d h mi s,e = .returned (.agg #[.int .i64 y,.int .i64 mo,.int .i64 d,.int .i64 h,.int .i64 mi,.int .i64 s])/\DrS y mo d h mi s/\Rd w' B b (m+6)/\Kb b w w':=by
 refine(lR B b m w h hm).mono ?_;rintro e w' ⟨y,mo,d,h,mi,s,he,hd,r⟩;exact⟨y,mo,d,h,mi,s,he,hd.1,r⟩
theorem Six.set_other{w:World}{b c o:Nat}{y mo d h mi s:Int}(k:Six w b y mo d h mi s)(v:Value)(hc:b≠c):Six (w.setCell ⟨c,o,none⟩ v) b y mo d h mi s:=by
 have e:(w.setCell ⟨c,o,none⟩ v).heap[b]?=w.heap[b]?:=a0I w ⟨c,o,none⟩ v b hc;obtain⟨⟨c0,c1,c2,c3,c4,c5⟩,⟨f0,f1,f2,f3,f4,f5⟩,hlt⟩:=k;refine⟨⟨?_,?_,?_,?_,?_,?_⟩,⟨?_,?_,?_,?_,?_,?_⟩,by simpa using hlt⟩
 · exact(World.cell?_of_block (w:=w) e).trans c0
 · exact(World.cell?_of_block (w:=w) e).trans c1
 · exact(World.cell?_of_block (w:=w) e).trans c2
 · exact(World.cell?_of_block (w:=w) e).trans c3
 · exact(World.cell?_of_block (w:=w) e).trans c4
 · exact(World.cell?_of_block (w:=w) e).trans c5
 · exact(World.frozen?_of_block (w:=w) e).trans f0
 · exact(World.frozen?_of_block (w:=w) e).trans f1
 · exact(World.frozen?_of_block (w:=w) e).trans f2
 · exact(World.frozen?_of_block (w:=w) e).trans f3
 · exact(World.frozen?_of_block (w:=w) e).trans f4
 · exact(World.frozen?_of_block (w:=w) e).trans f5
theorem pu(B b m:Nat)(w:World)(h:Rd w B b m)(hm:m<=98000) :
  Calls Tryz.prog 46 #[.pointer (some ⟨b,0,none⟩)] w fun e w'=>∃y mo d h mi s,e = .returned (.agg #[.int .i64 y,.int .i64 mo,.int .i64 d,.int .i64 h,.int .i64 mi,.int .i64 s])/\DrS y mo d h mi s/\Rd w' B b (m+8)/\Kb b w w':=by
 have hlt:=h.lt;have K0:=af (mZ w (.cells #[.int .i64 0,.int .i64 0,.int .i64 0,.int .i64 0,.int .i64 0,.int .i64 0] 24) hlt);have X0:=af (eH w 0 0 0 0 0 0 24);have R0:=af (h.alloc (.cells #[.int .i64 0,.int .i64 0,.int .i64 0,.int .i64 0,.int .i64 0,.int .i64 0] 24));have HNE:=af (show w.heap.size≠b by omega);have HLT:=af hlt;have HM:=af hm;clear h hlt hm;go_enter Tryz.func46,Tryz.ntmps46;go_wp2_with fail;refine(na B b m _ (ae R0) (by have:=ae HM;omega)).mono ?_;rintro e w1 ⟨y,mo,d,h,mi,s,rfl,ds,r1,k1⟩;have K1:=af ((ae K0).trans k1);have X1:=af ((ae X0).kb k1 (ae HNE));have HD:=af ds;have hb1:=r1.lt;have hs1:=(ae X1).2.2;have hne1:¬ w1.heap.size=w.heap.size:=by omega
 have hne2:¬ w.heap.size=w1.heap.size:=by omega
 have HNB:=af (show w1.heap.size≠b by omega);have HLE:=af (show w.heap.size<=w1.heap.size by omega);have A1:=af (eH w1 y mo d h mi s 24);have KA:=af (mZ w1 (.cells #[.int .i64 y,.int .i64 mo,.int .i64 d,.int .i64 h,.int .i64 mi,.int .i64 s] 24) hb1);have RA:=af (r1.alloc (.cells #[.int .i64 y,.int .i64 mo,.int .i64 d,.int .i64 h,.int .i64 mi,.int .i64 s] 24));clear K0 X0 R0 k1 r1 ds hb1 hs1;go_wp2_with fail;refine(br B b _ 10 _ (ae RA) (by have:=ae HM;omega) (by omega) (by omega)).mono ?_;rintro e w2 ⟨r,rfl,r0,r1,rr,k2⟩;have K2:=af (((ae K1).trans (ae KA)).trans k2.kb);have X2:=af (((ae X1).kb (ae KA) (ae HNE)).kb k2.kb (ae HNE));have A2:=af ((ae A1).kb k2.kb (ae HNB));have R2:=af rr;clear K1 X1 A1 KA RA k2 rr;by_cases q0:r=0
 ·
  subst q0;go_wp2_with fail;refine(rm B b _ 5 w2.heap.size [0,29,30,31,32] 3 w2 rfl rfl (ae R2) (by have:=ae HM;omega) (by omega) (by omega)).mono ?_;rintro e w3 ⟨v,hv,rfl,rr,k3⟩;have hv':=af hv;have K3:=af ((ae K2).trans k3);have X3:=af ((ae X2).kb k3 (ae HNE));have A3:=af ((ae A2).kb k3 (ae HNB));have R3:=af rr;clear K2 X2 A2 R2 k3 rr hv;have HZ:=af (((ae X3).set_other (c:=w1.heap.size) (o:=2) (.int .i64 v) hne2).store y mo v h mi s);obtain⟨⟨c0,c1,c2,c3,c4,c5⟩,⟨f0,f1,f2,f3,f4,f5⟩,hl3⟩:=ae X3;obtain⟨⟨a0,a1,a2,a3,a4,a5⟩,⟨g0,g1,g2,g3,g4,g5⟩,hm3⟩:=ae A3;clear X3 A3;go_wp2;obtain⟨⟨z0,z1,z2,z3,z4,z5⟩,_,_⟩:=ae HZ;refine a0w (v:=.agg #[.int .i64 y,.int .i64 mo,.int .i64 v,.int .i64 h,.int .i64 mi,.int .i64 s]) (by simp[results,a2T,go_sem,z0,z1,z2,z3,z4,z5]) rfl ⟨y,mo,v,h,mi,s,rfl,?_,?_,?_⟩
  · obtain⟨_,_,_,_,_,_,_⟩:=ae HD;have:=ae hv';simp at this;refine⟨?_,?_,?_,?_,?_,?_⟩<;>omega
  · exact oy (iU ((ae R3).mono (by omega)) _ (a0g (ae HLT) (ae HLE))) (ae HLT) _ _ _ _ _ _
  · exact ol (iP (ae K3) _ (ae HLE) (ae HLT)) (a0a _) (ae HLT) _ _ _ _ _ _
 ·
  skip
  by_cases q1:r=1
  ·
   subst q1;go_wp2_with fail;refine(rm B b _ 4 w2.heap.size [1979,2100,2108,1900] 3 w2 rfl rfl (ae R2) (by have:=ae HM;omega) (by omega) (by omega)).mono ?_;rintro e w3 ⟨v,hv,rfl,rr,k3⟩;have hv':=af hv;have K3:=af ((ae K2).trans k3);have X3:=af ((ae X2).kb k3 (ae HNE));have A3:=af ((ae A2).kb k3 (ae HNB));have R3:=af rr;clear K2 X2 A2 R2 k3 rr hv;have HZ:=af (((ae X3).set_other (c:=w1.heap.size) (o:=0) (.int .i64 v) hne2).store v mo d h mi s);obtain⟨⟨c0,c1,c2,c3,c4,c5⟩,⟨f0,f1,f2,f3,f4,f5⟩,hl3⟩:=ae X3;obtain⟨⟨a0,a1,a2,a3,a4,a5⟩,⟨g0,g1,g2,g3,g4,g5⟩,hm3⟩:=ae A3;clear X3 A3;go_wp2;obtain⟨⟨z0,z1,z2,z3,z4,z5⟩,_,_⟩:=ae HZ;refine a0w (v:=.agg #[.int .i64 v,.int .i64 mo,.int .i64 d,.int .i64 h,.int .i64 mi,.int .i64 s]) (by simp[results,a2T,go_sem,z0,z1,z2,z3,z4,z5]) rfl ⟨v,mo,d,h,mi,s,rfl,?_,?_,?_⟩
   · obtain⟨_,_,_,_,_,_,_⟩:=ae HD;have:=ae hv';simp at this;refine⟨?_,?_,?_,?_,?_,?_⟩<;>omega
   · exact oy (iU ((ae R3).mono (by omega)) _ (a0g (ae HLT) (ae HLE))) (ae HLT) _ _ _ _ _ _
   · exact ol (iP (ae K3) _ (ae HLE) (ae HLT)) (a0a _) (ae HLT) _ _ _ _ _ _
  ·
   skip
   by_cases q2:r=2
   ·
    subst q2;go_wp2_with fail;refine(rm B b _ 4 w2.heap.size [1,59,60,-2] 3 w2 rfl rfl (ae R2) (by have:=ae HM;omega) (by omega) (by omega)).mono ?_;rintro e w3 ⟨v,hv,rfl,rr,k3⟩;have hv':=af hv;have K3:=af ((ae K2).trans k3);have X3:=af ((ae X2).kb k3 (ae HNE));have A3:=af ((ae A2).kb k3 (ae HNB));have R3:=af rr;clear K2 X2 A2 R2 k3 rr hv;have HZ:=af (((ae X3).set_other (c:=w1.heap.size) (o:=5) (.int .i64 v) hne2).store y mo d h mi v);obtain⟨⟨c0,c1,c2,c3,c4,c5⟩,⟨f0,f1,f2,f3,f4,f5⟩,hl3⟩:=ae X3;obtain⟨⟨a0,a1,a2,a3,a4,a5⟩,⟨g0,g1,g2,g3,g4,g5⟩,hm3⟩:=ae A3;clear X3 A3;go_wp2;obtain⟨⟨z0,z1,z2,z3,z4,z5⟩,_,_⟩:=ae HZ;refine a0w (v:=.agg #[.int .i64 y,.int .i64 mo,.int .i64 d,.int .i64 h,.int .i64 mi,.int .i64 v]) (by simp[results,a2T,go_sem,z0,z1,z2,z3,z4,z5]) rfl ⟨y,mo,d,h,mi,v,rfl,?_,?_,?_⟩
    · obtain⟨_,_,_,_,_,_,_⟩:=ae HD;have:=ae hv';simp at this;refine⟨?_,?_,?_,?_,?_,?_⟩<;>omega
    · exact oy (iU ((ae R3).mono (by omega)) _ (a0g (ae HLT) (ae HLE))) (ae HLT) _ _ _ _ _ _
    · exact ol (iP (ae K3) _ (ae HLE) (ae HLT)) (a0a _) (ae HLT) _ _ _ _ _ _
   ·
    skip
    by_cases q3:r=3
    ·
     subst q3;go_wp2_with fail;refine(rm B b _ 3 w2.heap.size [0,2,13] 3 w2 rfl rfl (ae R2) (by have:=ae HM;omega) (by omega) (by omega)).mono ?_;rintro e w3 ⟨v,hv,rfl,rr,k3⟩;have hv':=af hv;have K3:=af ((ae K2).trans k3);have X3:=af ((ae X2).kb k3 (ae HNE));have A3:=af ((ae A2).kb k3 (ae HNB));have R3:=af rr;clear K2 X2 A2 R2 k3 rr hv;have HZ:=af (((ae X3).set_other (c:=w1.heap.size) (o:=1) (.int .i64 v) hne2).store y v d h mi s);obtain⟨⟨c0,c1,c2,c3,c4,c5⟩,⟨f0,f1,f2,f3,f4,f5⟩,hl3⟩:=ae X3;obtain⟨⟨a0,a1,a2,a3,a4,a5⟩,⟨g0,g1,g2,g3,g4,g5⟩,hm3⟩:=ae A3;clear X3 A3;go_wp2;obtain⟨⟨z0,z1,z2,z3,z4,z5⟩,_,_⟩:=ae HZ;refine a0w (v:=.agg #[.int .i64 y,.int .i64 v,.int .i64 d,.int .i64 h,.int .i64 mi,.int .i64 s]) (by simp[results,a2T,go_sem,z0,z1,z2,z3,z4,z5]) rfl ⟨y,v,d,h,mi,s,rfl,?_,?_,?_⟩
     · obtain⟨_,_,_,_,_,_,_⟩:=ae HD;have:=ae hv';simp at this;refine⟨?_,?_,?_,?_,?_,?_⟩<;>omega
     · exact oy (iU ((ae R3).mono (by omega)) _ (a0g (ae HLT) (ae HLE))) (ae HLT) _ _ _ _ _ _
     · exact ol (iP (ae K3) _ (ae HLE) (ae HLT)) (a0a _) (ae HLT) _ _ _ _ _ _
    ·
     skip
     have X3:=X2;have HZ:=af ((ae X2).store y mo d h mi s);obtain⟨⟨c0,c1,c2,c3,c4,c5⟩,⟨f0,f1,f2,f3,f4,f5⟩,hl3⟩:=ae X2;obtain⟨⟨a0,a1,a2,a3,a4,a5⟩,⟨g0,g1,g2,g3,g4,g5⟩,hm3⟩:=ae A2;clear X2 A2 X3;go_wp2;obtain⟨⟨z0,z1,z2,z3,z4,z5⟩,_,_⟩:=ae HZ;refine a0w (v:=.agg #[.int .i64 y,.int .i64 mo,.int .i64 d,.int .i64 h,.int .i64 mi,.int .i64 s]) (by simp[results,a2T,go_sem,z0,z1,z2,z3,z4,z5]) rfl ⟨y,mo,d,h,mi,s,rfl,ae HD,?_,?_⟩
     · exact oy ((ae R2).mono (by omega)) (ae HLT) _ _ _ _ _ _
     · exact ol (ae K2) (a0a _) (ae HLT) _ _ _ _ _ _
end Go.Proofs.YtfhdadkcophoaaaGreatDoor
