/- Of what the proof is made: 6 texts, one behind the other. -/
import Derived.Test.YtkpfkgoiaicgbaaGreatDoorM6
import Derived.OpenShut
import Derived.Laws.OwnMore
import Derived.BigQuiet
set_option linter.unusedSimpArgs false
set_option linter.unusedVariables false
set_option maxHeartbeats 1600000
namespace Go.Proofs.YtkpfkgoiaicgbaaGreatDoor
open Go.RowKit
def Fc(k:IntKind)(w:World)(a:Option Addr)(len cap:Nat)(zs:List Int):Prop:=
 (a=none/\len=0/\cap=0/\zs=[]) ∨
 ∃x,a=some x/\len<=cap/\cap<=maxLen/\zs.length=cap/\(∀i,i<zs.length->w.cell? (x.add i)=some (.int k (zs.getD i 0)))/\∀n∈zs,(Lit.int k n).wf=true
def Src(w:World)(a:Option Addr)(len:Nat)(z:Nat->Int):Prop:=
 (∀i,0<=z i/\z i<256)/\(0<len->∃ab ao,a=some ⟨ab,ao,none⟩/\ab<w.heap.size/\∀i,i<len->w.cell? ⟨ab,ao+i,none⟩=some (.int .u8 (z i)))
theorem Mk{w:World}{a:Option Addr}{len cap:Nat}{zs:List Int}(h:Fc .u8 w a len cap zs):(∃z,Src w a len z)/\len<=cap/\len<=maxLen:=by
 rcases h with⟨rfl,rfl,rfl,rfl⟩|⟨x,rfl,hl,hm,hz,hc,hw⟩
 · exact⟨⟨fun _=>0,fun _=>⟨Int.le_refl _,by show(0:Int)<256;omega⟩,fun h=>absurd h (by omega)⟩,by omega,by unfold maxLen;omega⟩
 ·
  refine⟨⟨fun i=>zs.getD i 0,fun i=>?_,fun h0=>?_⟩,hl,by omega⟩
  ·
   by_cases hi:i<zs.length
   ·
    have hm:zs.getD i 0∈zs:=by simp[List.getD,hi]
    have hb:=bounds_u8 (hw _ hm);exact⟨hb.1,Int.lt_of_le_of_lt hb.2 (by omega)⟩
   · simp[List.getD,List.getElem?_eq_none (by omega:zs.length<=i)]
  ·
   obtain⟨b,off,spot⟩:=x;have hc0:=hc 0 (by omega);have hspot:spot=none:=by simpa[Addr.add]using World.cell?_spot hc0
   subst hspot;refine⟨b,off,rfl,?_,fun i hi=>?_⟩
   · have:=World.block_lt_of_cell? _ _ hc0;simpa[Addr.add]using this
   ·
    have:=hc i (by omega);by_cases e:i=0
    · subst e;simpa[Addr.add]using this
    · simpa[Addr.add,e]using this
theorem Iv{w:World}{a:Option Addr}{len cap:Nat}{z:Nat->Int}(h:Src w a len z)(hl:len<=2000)(t:TypeId) :
  Rd (w.alloc (.cells #[.slice a len cap,.int .i64 0] t)) w.heap.size w.heap.size 0:=by
 refine⟨a,len,cap,0,z,hl,Nat.le_refl _,Nat.le_refl _,⟨by simp,by simp,by simp,by simp,by simp⟩,h.1,fun h0=>?_⟩;obtain⟨ab,ao,e,hlt,hc⟩:=h.2 h0;refine⟨ab,ao,e,hlt,fun i hi=>?_⟩;rw[World.cell?_alloc_past _ _ _ hlt];exact hc i hi
theorem Src.less{w:World}{a:Option Addr}{len:Nat}{z:Nat->Int}(h:Src w a len z)(hl:2000<len):Src w a 2000 z:=by
 refine⟨h.1,fun _=>?_⟩;obtain⟨ab,ao,e,hlt,hc⟩:=h.2 (by omega);exact⟨ab,ao,e,hlt,fun i hi=>hc i (by omega)⟩
theorem zO(a:Option Addr)(len cap:Nat)(z:Nat->Int)(w:World)(h:Src w a len z)(hc:len<=cap)(hm:len<=maxLen) :
  Calls Tryz.prog 12 #[.slice a len cap] w fun e w'=>e = .returned (.pointer (some ⟨w.heap.size,0,none⟩))/\Rd w' w.heap.size w.heap.size 0/\Below w.heap.size w w'/\w'.heap.size=w.heap.size+1:=by
 unfold maxLen at hm;by_cases hl:(2000:Int)<(len:Int)
 ·
  have h2:=af (h.less (by omega));obtain⟨ab,ao,rfl,hlt,_⟩:=h.2 (by omega);have hcc:(2000:Int)<=(cap:Int):=by omega
  clear h;go_enter Tryz.func12,Tryz.ntmps12;go_wp2;go_ret;exact⟨rfl,Iv (ae h2) (Nat.le_refl _) _,(Below.refl _ _).alloc (Nat.le_refl _) _,by simp⟩
 · have h2:=af h;clear h;go_enter Tryz.func12,Tryz.ntmps12;go_wp2;go_ret;exact⟨rfl,Iv (ae h2) (by omega) _,(Below.refl _ _).alloc (Nat.le_refl _) _,by simp⟩
theorem Rd.alloc{w:World}{B b m:Nat}(h:Rd w B b m)(o:Obj):Rd (w.alloc o) B b m:=by
 obtain⟨a,len,cap,p,z,hl,hp,hB,htwo,hz,hsrc⟩:=h;obtain⟨c0,c1,f0,f1,hb⟩:=htwo;refine⟨a,len,cap,p,z,hl,hp,hB,⟨?_,?_,?_,?_,?_⟩,hz,fun h0=>?_⟩
 · rw[World.cell?_alloc_past _ _ _ hb];exact c0
 · rw[World.cell?_alloc_past _ _ _ hb];exact c1
 · rw[World.frozen?_alloc_past _ _ _ hb];exact f0
 · rw[World.frozen?_alloc_past _ _ _ hb];exact f1
 · simp;omega
 · obtain⟨ab,ao,e,hlt,hc⟩:=hsrc h0;refine⟨ab,ao,e,hlt,fun i hi=>?_⟩;rw[World.cell?_alloc_past _ _ _ (by omega)];exact hc i hi
theorem Rd.lt{w:World}{B b m:Nat}(h:Rd w B b m):b<w.heap.size:=by
 obtain⟨a,len,cap,p,z,hl,hp,hB,htwo,hz,hsrc⟩:=h;exact htwo.2.2.2.2
theorem Rd.mono{w:World}{B b m n:Nat}(h:Rd w B b m)(hn:m<=n):Rd w B b n:=by
 obtain⟨a,len,cap,p,z,hl,hp,hr⟩:=h;exact⟨a,len,cap,p,z,hl,by omega,hr⟩
theorem Rd.kept{w w':World}{B b m:Nat}(h:Rd w B b m)(hb:Below (b+1) w w'):Rd w' B b m:=by
 obtain⟨a,len,cap,p,z,hl,hp,hB,htwo,hz,hsrc⟩:=h;obtain⟨c0,c1,f0,f1,hlt⟩:=htwo;refine⟨a,len,cap,p,z,hl,hp,hB,⟨?_,?_,?_,?_,?_⟩,hz,fun h0=>?_⟩
 · exact(hb.cell (p:=⟨b,0,none⟩) (Nat.lt_succ_self b)).trans c0
 · exact(hb.cell (p:=⟨b,1,none⟩) (Nat.lt_succ_self b)).trans c1
 · exact(hb.frozen (p:=⟨b,0,none⟩) (Nat.lt_succ_self b)).trans f0
 · exact(hb.frozen (p:=⟨b,1,none⟩) (Nat.lt_succ_self b)).trans f1
 · exact Nat.lt_of_lt_of_le hlt hb.size
 · obtain⟨ab,ao,e,hlt,hc⟩:=hsrc h0;refine⟨ab,ao,e,hlt,fun i hi=>?_⟩;exact(hb.cell (p:=⟨ab,ao+i,none⟩) (by show ab<b+1;omega)).trans (hc i hi)
theorem mN.grown{b:Nat}{w w':World}(h:mN b w w'):w.grownBy w' (some b):=
 ⟨h.1.os,h.1.tape,h.1.output,by rw[h.2.2];exact Nat.le_refl _,fun k _ hk=>h.2.1 k (fun e=>hk (by rw[e]))⟩
theorem tN{w w':World}{b base:Nat}{e:TypeId}{size:Nat}{v:Value}{n:Nat}{xs:List Value}(h:w.ownsRow base e size v n xs)(ho:mN b w w')(hb:b<base):w'.ownsRow base e size v n xs:=
 h.kept ho.grown (by
  cases hv:v.ownBlock with
  | none=>exact .inl rfl
  | some k=>exact .inr (fun e=>by have:=(h.lt k hv).1;cases e;omega))
theorem Rd.grown{w w':World}{B b m:Nat}{row:Option Nat}(h:Rd w B b m)(hg:w.grownBy w' row)(hr:∀k,row=some k->b<k):Rd w' B b m:=by
 have hlt:=h.lt;exact h.kept ((Below.refl _ _).grown hg (by omega) (fun k e=>hr k e))
theorem Src.later{w w':World}{a:Option Addr}{len:Nat}{z:Nat->Int}(h:Src w a len z)(hb:Below w.heap.size w w'):Src w' a len z:=by
 refine⟨h.1,fun h0=>?_⟩;obtain⟨ab,ao,e,hlt,hc⟩:=h.2 h0;exact⟨ab,ao,e,Nat.lt_of_lt_of_le hlt hb.size,fun i hi=>(hb.cell (p:=⟨ab,ao+i,none⟩) hlt).trans (hc i hi)⟩
theorem aj{w w1 w2:World}(h:Below w.heap.size w w1)(k:Below w1.heap.size w1 w2):Below w.heap.size w w2:=h.trans (k.mono h.size)
def stF(L G k:Nat):Nat×Nat:=if k<G then(L+k,0)else(L+(G+k%G)*p2 (k/G-1),k/G-1)
theorem Jn(n:Int)(h : -9223372036854775808<=n/\n<=9223372036854775807):wrap64 n=n:=by unfold wrap64;omega
theorem yl(L G M k:Nat)(w:World)(hL:L<=3)(hG:1<=G)(hG4:G<=4)(hk:k/G<=15)(hk2:k<=60) :
  Calls Tryz.prog 201 #[.agg #[.int .i64 (L:Nat),.int .i64 (G:Nat),.int .i64 (M:Nat)],.int .i64 (k:Nat)] w fun e w'=>e = .returned (.tuple #[.int .i64 ((stF L G k).1:Nat),.int .i64 ((stF L G k).2:Nat)])/\Below w.heap.size w w':=by
 have hLI:(L:Int)<=3:=by omega
 have hGI:(1:Int)<=(G:Int):=by omega
 have hG4I:(G:Int)<=4:=by omega
 have hkI:(k:Int)<=60:=by omega
 by_cases hlt:k<G
 ·
  have hltI:(k:Int)<(G:Int):=by omega
  have e:stF L G k=(L+k,0):=by unfold stF;rw[if_pos hlt]
  rw[e];clear hk hk2 hlt hL hG hG4 e;go_enter Tryz.func201,Tryz.ntmps201;go_wp2
  go_ret2
  exact⟨by simp,(Below.refl _ _).alloc (Nat.le_refl _) _⟩
 ·
  have hltI:¬ (k:Int)<(G:Int):=by omega
  obtain⟨q,hq⟩:∃q,k/G=q:=⟨_,rfl⟩;have hq1:1<=q:=by rw[←hq];exact(Nat.le_div_iff_mul_le hG).2 (by omega)
  obtain⟨b,hb⟩:∃b,q-1=b:=⟨_,rfl⟩;obtain⟨r,hr⟩:∃r,k%G=r:=⟨_,rfl⟩;have hr4:r<4:=by rw[←hr];exact Nat.lt_of_lt_of_le (Nat.mod_lt _ hG) hG4
  have hqI:(k:Int)/(G:Int)=(q:Int):=by rw[←hq];exact(Int.natCast_ediv k G).symm
  have hbI:(q:Int)-1=(b:Int):=by omega
  have hrI:(k:Int)%(G:Int)=(r:Int):=by rw[←hr];exact(Int.natCast_emod k G).symm
  have hb14:(b:Int)<=14:=by omega
  have hrI4:(r:Int)<4:=by omega
  have e:stF L G k=(L+(G+r)*p2 b,b):=by unfold stF;rw[if_neg hlt,hq,hb,hr]
  have HW:Hid (wrap64 ((L:Int)+wrap64 (((G:Int)+(r:Int))*2 ^ b))=((L+(G+r)*p2 b:Nat):Int)):=by
   show _=_;have h1:p2 b<=p2 14:=Nat.pow_le_pow_right (by omega) (by omega);have h2:p2 14=16384:=by decide
   have h3:(G+r)*p2 b<=7*16384:=Nat.mul_le_mul (by omega) (by omega);have h4:((G:Int)+(r:Int))*2 ^ b=(((G+r)*p2 b:Nat):Int):=by rw[Int.natCast_mul,iP];simp
   rw[h4];generalize (G+r)*p2 b=Q at *
   rw[Jn (Q:Int) (by omega),Jn ((L:Int)+(Q:Int)) (by omega)];omega
  rw[e];clear hk hk2 hlt hL hG hG4 e hq hb hr hr4 hq1;go_enter Tryz.func201,Tryz.ntmps201;go_wp2
  go_quiet (fail)
  go_wp2
  go_ret2
  exact⟨by rw[←ae HW];rfl,below_drewN ((Below.refl _ _).alloc (Nat.le_refl _) _) _⟩
def Kn(b:Nat)(w w':World):Prop:=Below b w w'/\(∀k,k<w.heap.size->k≠b->w'.heap[k]?=w.heap[k]?)/\w.heap.size<=w'.heap.size
theorem Kn.trans{b:Nat}{u v w:World}(h:Kn b u v)(k:Kn b v w):Kn b u w:=
 ⟨h.1.trans k.1,fun i hi hb=>(k.2.1 i (Nat.lt_of_lt_of_le hi h.2.2) hb).trans (h.2.1 i hi hb),Nat.le_trans h.2.2 k.2.2⟩
theorem mN.kn{b:Nat}{w w':World}(h:mN b w w'):Kn b w w':=⟨h.1,fun k _ hk=>h.2.1 k hk,by rw[h.2.2];exact Nat.le_refl _⟩
theorem g8{b:Nat}(w:World)(o:Obj)(hb:b<w.heap.size):Kn b w (w.alloc o):=
 ⟨(Below.refl _ _).alloc (Nat.le_of_lt hb) _,fun k hk _=>((Below.refl w.heap.size w).alloc (Nat.le_refl _) o).block k hk,by simp⟩
theorem KA(B b m lb lo n cap:Nat)(v:Nat->ByteArray)(w:World)(h:Rd w B b m)(hm:m<=100000)(n1:0<n)(n2:n<=70000)(hlb:lb≠b)(hc:∀i,i<n->w.cell? ⟨lb,lo+i,none⟩=some (.string (v i))) :
  Calls Tryz.prog 60 #[.pointer (some ⟨b,0,none⟩),.slice (some ⟨lb,lo,none⟩) n cap] w fun e w'=>∃i:Nat,i<n/\e = .returned (.string (v i))/\Rd w' B b (m+1)/\mN b w w':=by
 have n1':(1:Int)<=(n:Int):=by omega
 have n2':(n:Int)<=70000:=by omega
 have hc':=af hc;clear hc;go_enter Tryz.func60,Tryz.ntmps60;go_wp2_with (go_at_call 33;refine(dL B b m _ _ h hm n1' n2').mono ?_;rintro e w' ⟨r,rfl,r0,r1,hrd,hon⟩;obtain⟨k,rfl⟩:=Int.eq_ofNat_of_zero_le r0;have hck:w'.cell? ⟨lb,lo+k,none⟩=some (.string (v k)):=(hon.cell (p:=⟨lb,lo+k,none⟩) hlb).trans (ae hc' k (by omega)));go_ret;exact⟨k,by omega,rfl,hrd,hon⟩
theorem zZ(w:World)(l:List ByteArray)(t:TypeId):∀i,i<l.length->(w.alloc (.cells (l.map Value.string).toArray t)).cell? ⟨w.heap.size,0+i,none⟩=some (.string (l.getD i ByteArray.empty)):=by
 intro i hi;simp[hi]
theorem Ls(B b m n lb:Nat)(l:List ByteArray)(t:TypeId)(w:World)(hb:w.heap.size=lb)(hn:l.length=n)(h:Rd w B b m)(hm:m<=100000)(n1:0<n)(n2:n<=70000) :
  Calls Tryz.prog 60 #[.pointer (some ⟨b,0,none⟩),.slice (some ⟨lb,0,none⟩) n n] (w.alloc (.cells (l.map Value.string).toArray t)) fun e w'=>∃v:ByteArray,v∈l/\e = .returned (.string v)/\Rd w' B b (m+1)/\Kn b w w':=by
 subst hn hb;have hlt:=h.lt;refine(KA B b m w.heap.size 0 l.length l.length (fun i=>l.getD i ByteArray.empty) _ (h.alloc _) hm n1 n2 (Nat.ne_of_gt hlt) (zZ w l t)).mono ?_;rintro e w' ⟨i,hi,he,hr,ho⟩;refine⟨l.getD i ByteArray.empty,?_,he,hr,(g8 w _ hlt).trans ho.kn⟩;simp[List.getD,hi]
def iw:List ByteArray:=[⟨#[97]⟩,⟨#[98,46,116,120,116]⟩,⟨#[100,105,114,47,97]⟩,⟨#[100,105,114,47,98]⟩,⟨#[120,45,121,95,122]⟩,⟨#[97,47,98,47,99,47,100]⟩,⟨#[114,101,97,100,109,101]⟩]
def nv:List ByteArray:=[⟨#[]⟩,⟨#[47]⟩,⟨#[97,47]⟩,⟨#[46,46]⟩,⟨#[97,47,46,46,47,98]⟩,⟨#[65]⟩,⟨#[97,32,98]⟩,⟨#[101,108,101,118,101,110,108,101,116,116,101]⟩,⟨#[97,47,98,47,99,47,100,47,101]⟩]
theorem pa(B b m:Nat)(w:World)(h:Rd w B b m)(hm:m<=99000) :
  Calls Tryz.prog 58 #[.pointer (some ⟨b,0,none⟩)] w fun e w'=>∃v,v∈iw/\e = .returned (.string v)/\Rd w' B b (m+1)/\Kn b w w':=by
 go_enter Tryz.func58,Tryz.ntmps58;go_wp2_with fail;refine(Ls B b m 7 w.heap.size iw 9 w rfl rfl h (by omega) (by omega) (by omega)).mono ?_;rintro e w1 ⟨v,hv,rfl,hr,hk⟩;have HV:=af hv;clear hv;go_wp2;go_ret;exact⟨v,ae HV,rfl,hr,hk⟩
theorem re(B b m:Nat)(w:World)(h:Rd w B b m)(hm:m<=98000) :
  Calls Tryz.prog 34 #[.pointer (some ⟨b,0,none⟩)] w fun e w'=>∃v,v∈nv++iw/\e = .returned (.string v)/\Rd w' B b (m+2)/\Kn b w w':=by
 go_enter Tryz.func34,Tryz.ntmps34;go_wp2_with fail;refine(dL B b m 6 _ h (by omega) (by omega) (by omega)).mono ?_;rintro e w1 ⟨r,rfl,r0,r1,hrd,hon⟩;have R1:=af hrd;have K1:=af hon.kn;clear h hrd hon;by_cases hr:r=0
 · subst hr;go_wp2_with fail;refine(Ls B b _ 9 w1.heap.size nv 9 w1 rfl rfl (ae R1) (by omega) (by omega) (by omega)).mono ?_;rintro e w2 ⟨v,hv,rfl,hr,hk⟩;have HV:=af hv;clear hv;go_wp2;go_ret;exact⟨v,List.mem_append.2 (.inl (ae HV)),rfl,hr,(ae K1).trans hk⟩
 · go_wp2_with fail;refine(pa B b _ _ (ae R1) (by omega)).mono ?_;rintro e w2 ⟨v,hv,rfl,hr,hk⟩;have HV:=af hv;clear hv;go_wp2;go_ret;exact⟨v,List.mem_append.2 (.inr (ae HV)),rfl,hr,(ae K1).trans hk⟩
theorem Ma(B b m lb lo n cap:Nat)(v:Nat->ByteArray)(w:World)(h:Rd w B b m)(hm:m<=100000)(n1:0<n)(n2:n<=70000)(hlb:lb≠b)(hc:∀i,i<n->w.cell? ⟨lb,lo+i,none⟩=some (.string (v i))) :
  Calls Tryz.prog 60 #[.pointer (some ⟨b,0,none⟩),.slice (some ⟨lb,lo,none⟩) n cap] w fun e w'=>∃i:Nat,i<n/\e = .returned (.string (v i))/\Rd w' B b (m+1)/\mN b w w':=by
 have n1':(1:Int)<=(n:Int):=by omega
 have n2':(n:Int)<=70000:=by omega
 have hc':=af hc;clear hc;go_enter Tryz.func60,Tryz.ntmps60;go_wp2_with (go_at_call 33;refine(dL B b m _ _ h hm n1' n2').mono ?_;rintro e w' ⟨r,rfl,r0,r1,hrd,hon⟩;obtain⟨k,rfl⟩:=Int.eq_ofNat_of_zero_le r0;have hck:w'.cell? ⟨lb,lo+k,none⟩=some (.string (v k)):=(hon.cell (p:=⟨lb,lo+k,none⟩) hlb).trans (ae hc' k (by omega)));go_ret;exact⟨k,by omega,rfl,hrd,hon⟩
theorem DO(x n o:Nat)(T:Nat)(h:x*n+o=T):(x+x)*(n/2)+(if n%2=1 then o+x else o)=T:=by
 have h1:(x+x)*(n/2)=x*(2*(n/2)):=by rw[←Nat.two_mul,Nat.mul_comm 2 x,Nat.mul_assoc]
 rw[h1]
 split
 ·
  rename_i h2;have:2*(n/2)+1=n:=by omega
  have h3:x*n=x*(2*(n/2))+x:=by rw[←this,Nat.mul_add,Nat.mul_one,this]
  omega
 ·
  rename_i h2;have:2*(n/2)=n:=by omega
  rw[this];exact h
theorem Kv(x n o T:Nat)(hn:0<n)(h:x*n+o=T):x<=T/\o+x<=T:=by
 have:x*1<=x*n:=Nat.mul_le_mul_left x hn;omega
theorem ml(s:ByteArray)(n:Int)(w:World)(n0:0<=n)(n1:n<=1000)(hs:s.size<=100) :
  Calls Tryz.prog 61 #[.string s,.int .i64 n] w fun e w'=>(∃t:ByteArray,e = .returned (.string t)/\t.size=s.size*n.toNat)/\w'=w:=by
 obtain⟨N,rfl⟩:=Int.eq_ofNat_of_zero_le n0;rw[Int.toNat_natCast];have hT:s.size*N<=100*1000:=Nat.mul_le_mul hs (by omega);generalize hTT:s.size*N=T at *
 have HT:=af hTT;clear hTT;go_enter Tryz.func61,Tryz.ntmps61;go_wp2
 go_loop [0,1,5] (fun s' n' o'=>∃(x:ByteArray) (k:Nat) (o:ByteArray),s' = .string x/\n' = .int .i64 k/\o' = .string o/\k<=N/\x.size*k+o.size=T/\x.size<=2*T+100) (fun _ n' _=>(intOf n').toNat)
 case atStart=>exact⟨s,N,ByteArray.empty,rfl,rfl,rfl,Nat.le_refl _,by have:=ae HT;simpa using this,by omega⟩
 case round=>
  obtain⟨x,k,o,rfl,rfl,rfl,hk,hT',hx⟩:=hrel;by_cases hp:(0:Int)<(k:Int)
  ·
   have hle:=Kv x.size k o.size T (by omega) hT';have hst:=af (DO x.size k o.size T hT');have HK:=af hk;have hk':(k:Int)<=1000:=by omega
   clear hT' hk;by_cases hodd:(k:Int)%2=1
   ·
    have ho':=af hodd;go_wp2
    go_round
    case rel=>
     have h2:=ae hst;rw[if_pos (by have:=ae ho';omega)]at h2;exact⟨x++x,k/2,o++x,rfl,by go_num,rfl,by have:=ae HK;omega,by rw[ByteArray.size_append,ByteArray.size_append];exact h2,by rw[ByteArray.size_append];omega⟩
    case measure=>simp[intOf];omega
   ·
    have ho':=af hodd;have hev:(k:Int)%2=0:=by omega
    clear hodd;go_wp2
    go_round
    case rel=>
     have h2:=ae hst;rw[if_neg (by have:=ae ho';omega)]at h2;exact⟨x++x,k/2,o,rfl,by go_num,rfl,by have:=ae HK;omega,by rw[ByteArray.size_append];exact h2,by rw[ByteArray.size_append];omega⟩
    case measure=>simp[intOf];omega
  ·
   have hk0:k=0:=by omega
   subst hk0;have HT':=af hT';clear hT';go_wp2;go_ret;exact⟨⟨o,rfl,by have:=ae HT';omega⟩,rfl⟩
theorem iT(k:Nat)(n:Int)(h0:0<=n)(h1:n<9223372036854775808)(hk:k<=20):bits .and .i64 n ((2 ^ k-1:Nat):Int)=n%(2 ^ k:Nat):=by
 obtain⟨a,rfl⟩:=Int.eq_ofNat_of_zero_le h0;have hp:2 ^ k<=2 ^ 20:=Nat.pow_le_pow_right (by omega) hk;rw[kh a (2 ^ k-1) (by omega) (by omega),Nat.and_two_pow_sub_one_eq_mod];omega
theorem Gj{n:Int}(h0:0<=n):gOk n=eu (gY n) (gM n) (gD n) (gH n) (gI n) (gS n):=by
 cases h:inB n 0 4294967295
 · have hb:=eC.1 h;have:eu (gY n) (gM n) (gD n) (gH n) (gI n) (gS n)=false:=IU (.inr (.inl (by unfold gY;omega)));rw[this];simp[gOk,h]
 · simp[gOk,h]
theorem ou(n:Int)(w:World)(hn:(Lit.int .i64 n).wf=true) :
  Calls Tryz.prog 110 #[.int .i64 n] w fun e w'=>e = .returned (.tuple #[stG n,.bool (gOk n)])/\Below w.heap.size w w':=by
 have hb:=bounds_i64 hn;obtain⟨lo,hi⟩:=hb;by_cases h0:0<=n
 ·
  have a1:bits .and .i64 (n/2097152) 15=gM n:=iT 4 _ (by omega) (by omega) (by omega);have a2:bits .and .i64 (n/65536) 31=gD n:=iT 5 _ (by omega) (by omega) (by omega);have a3:bits .and .i64 (n/2048) 31=gH n:=iT 5 _ (by omega) (by omega) (by omega);have a4:bits .and .i64 (n/32) 63=gI n:=iT 6 _ (by omega) (by omega) (by omega);have a5:bits .and .i64 n 31=n%32:=iT 5 _ (by omega) (by omega) (by omega);have hk:=Gj h0;have gy:1980+n/33554432=gY n:=by unfold gY;omega
  have gs:2*(n%32)=gS n:=rfl;cases ho:eu (gY n) (gM n) (gD n) (gH n) (gI n) (gS n)
  · rw[ho]at hk;rw[hk,IQ hk];go_enter Tryz.func110,Tryz.ntmps110;go_wp2_with fail;refine(bK _ _ _ _ _ _ _).mono ?_;rintro e w2 ⟨rfl,hb2⟩;rw[ho];have hx:=((i6 w 0 0 0 0 0 0 32).later ((Below.refl _ _).alloc (Nat.le_refl _) _) (by simp)).later hb2 (by simp;omega);obtain⟨⟨z0,z1,z2,z3,z4,z5⟩,_,_⟩:=hx.store 0 0 0 0 0 0;obtain⟨⟨c0,c1,c2,c3,c4,c5⟩,⟨f0,f1,f2,f3,f4,f5⟩,hlt⟩:=hx;go_wp2;refine bodyPost_ret (v:=.tuple #[.agg #[.int .i64 0,.int .i64 0,.int .i64 0,.int .i64 0,.int .i64 0,.int .i64 0],.bool false]) (by simp[results,Tryz.results110,go_sem,z0,z1,z2,z3,z4,z5]) rfl ⟨rfl,?_⟩;exact oL ((((Below.refl _ _).alloc (Nat.le_refl _) _).alloc (by simp) _).trans (hb2.mono (by simp;omega))) (Nat.le_refl _) _ _ _ _ _ _
  ·
   rw[ho]at hk;rw[hk,K6 hk];go_enter Tryz.func110,Tryz.ntmps110;go_wp2_with fail;refine(bK _ _ _ _ _ _ _).mono ?_;rintro e w2 ⟨rfl,hb2⟩;rw[ho];have hx:=((i6 w 0 0 0 0 0 0 32).later ((Below.refl _ _).alloc (Nat.le_refl _) _) (by simp)).later hb2 (by simp;omega);have hz:=(i6 (w.alloc (.cells #[.int .i64 0,.int .i64 0,.int .i64 0,.int .i64 0,.int .i64 0,.int .i64 0] 32)) (gY n) (gM n) (gD n) (gH n) (gI n) (gS n) 32).later hb2 (by simp);have hz':Six w2 (w.heap.size+1) (gY n) (gM n) (gD n) (gH n) (gI n) (gS n):=by simpa using hz
   clear hz;obtain⟨⟨z0,z1,z2,z3,z4,z5⟩,_,_⟩:=hx.store (gY n) (gM n) (gD n) (gH n) (gI n) (gS n);obtain⟨⟨c0,c1,c2,c3,c4,c5⟩,⟨f0,f1,f2,f3,f4,f5⟩,hlt⟩:=hx;obtain⟨⟨d0,d1,d2,d3,d4,d5⟩,_,_⟩:=hz';go_wp2;refine bodyPost_ret (v:=.tuple #[.agg #[.int .i64 (gY n),.int .i64 (gM n),.int .i64 (gD n),.int .i64 (gH n),.int .i64 (gI n),.int .i64 (gS n)],.bool true]) (by simp[results,Tryz.results110,go_sem,z0,z1,z2,z3,z4,z5]) rfl ⟨rfl,?_⟩;exact oL ((((Below.refl _ _).alloc (Nat.le_refl _) _).alloc (by simp) _).trans (hb2.mono (by simp;omega))) (Nat.le_refl _) _ _ _ _ _ _
 ·
  have hk:gOk n=false:=by simp[gOk,inB,h0]
  rw[hk,IQ hk];have hy:1980+n/33554432<1980:=by omega
  go_enter Tryz.func110,Tryz.ntmps110;go_wp2_with fail;refine(bK _ _ _ _ _ _ _).mono ?_;rintro e w2 ⟨rfl,hb2⟩;rw[IU (.inl hy)];have hx:=((i6 w 0 0 0 0 0 0 32).later ((Below.refl _ _).alloc (Nat.le_refl _) _) (by simp)).later hb2 (by simp;omega);obtain⟨⟨z0,z1,z2,z3,z4,z5⟩,_,_⟩:=hx.store 0 0 0 0 0 0;obtain⟨⟨c0,c1,c2,c3,c4,c5⟩,⟨f0,f1,f2,f3,f4,f5⟩,hlt⟩:=hx;go_wp2;refine bodyPost_ret (v:=.tuple #[.agg #[.int .i64 0,.int .i64 0,.int .i64 0,.int .i64 0,.int .i64 0,.int .i64 0],.bool false]) (by simp[results,Tryz.results110,go_sem,z0,z1,z2,z3,z4,z5]) rfl ⟨rfl,?_⟩;exact oL ((((Below.refl _ _).alloc (Nat.le_refl _) _).alloc (by simp) _).trans (hb2.mono (by simp;omega))) (Nat.le_refl _) _ _ _ _ _ _
theorem Six.set_other{w:World}{b c o:Nat}{y mo d h mi s:Int}(k:Six w b y mo d h mi s)(v:Value)(hc:b≠c):Six (w.setCell ⟨c,o,none⟩ v) b y mo d h mi s:=by
 have e:(w.setCell ⟨c,o,none⟩ v).heap[b]?=w.heap[b]?:=Below.heap_setCell w ⟨c,o,none⟩ v b hc;obtain⟨⟨c0,c1,c2,c3,c4,c5⟩,⟨f0,f1,f2,f3,f4,f5⟩,hlt⟩:=k;refine⟨⟨?_,?_,?_,?_,?_,?_⟩,⟨?_,?_,?_,?_,?_,?_⟩,by simpa using hlt⟩
 · exact(World.cell?_of_block (w:=w) e).trans c0
 · exact(World.cell?_of_block (w:=w) e).trans c1
 · exact(World.cell?_of_block (w:=w) e).trans c2
 · exact(World.cell?_of_block (w:=w) e).trans c3
 · exact(World.cell?_of_block (w:=w) e).trans c4
 · exact(World.cell?_of_block (w:=w) e).trans c5
 · exact(World.frozen?_of_block (w:=w) e).trans f0
 · exact(World.frozen?_of_block (w:=w) e).trans f1
 · exact(World.frozen?_of_block (w:=w) e).trans f2
 · exact(World.frozen?_of_block (w:=w) e).trans f3
 · exact(World.frozen?_of_block (w:=w) e).trans f4
 · exact(World.frozen?_of_block (w:=w) e).trans f5
end Go.Proofs.YtkpfkgoiaicgbaaGreatDoor
