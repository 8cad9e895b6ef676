/- Texts. -/
import Derived.Test.YtfannoajibacnaaGreatDoorM21
import Derived.Test.YtfannoajibacnaaGreatDoorM20
import Derived.Test.YtfannoajibacnaaGreatDoorTi4
import Derived.WalkLawsBesides
set_option linter.all false
set_option maxRecDepth 100000
set_option maxHeartbeats 3200000
namespace Go.Proofs.YtfannoajibacnaaGreatDoor
open Go.Proofs.Tryz
open Go.RowKit Corb
variable {A B:List Int}{T T':List UInt8}{V b n p q sz:Nat}{f:Bool}{s:ByteArray}{w:World}
def lJ:Ending:=.panicked [{ v:=.iface 286 (.agg #[]),recovered:=false }]
def dO(w:World):Calls prog 247 #[.bool true] w fun e w'=>e = .returned (.tuple #[])/\w'=w:=by
 go_enter func247,ntmps247;go_wp2
 go_end0
 exact⟨rfl,rfl⟩
def gm(w:World):Calls prog 247 #[.bool false] w fun e w'=>e=lJ/\w'=w:=by
 go_enter func247,ntmps247;go_wp2;exact⟨rfl,rfl,rfl⟩
def kG(w:World)(b:Nat)(s:ByteArray)(d:Option (Nat×Nat))(e:Ending)(w':World):Prop:=
 aw b w w'/\match d with
  | none=>e=lJ
  | some (x,q)=>e = .returned (.int .i64 (x:Nat))/\Rdr w' b s q
def cJ(b p k:Nat)(s:ByteArray)(w:World)(h:Rdr w b s p)(m:s.size<=2000000)(l:k<=16) :
  Calls prog 246 #[.pointer b,.int .i64 (k:Int)] w (kG w b s (rdN (ak s) (8*s.size) p k)):=by
 have HP:=af (xK b p k 0 s w h m l);unfold kG;by_cases i:p+k<=8*s.size
 . rw[dn i];have hd:decide (8*s.size<p+k)=false:=a0m (by omega);have j:=af hd;clear h m l i hd;go_enter func246,ntmps246;go_wp2_with fail;apply HP.mono;rintro e x1⟨rfl,d,f⟩;have c:=d;unfold Rdr at c;rw[ae j]at c;obtain⟨n,o,q,_⟩:=c;have g:=af (a0b d f);clear d f HP n o;go_wp2_with fail;apply(dO _).mono;rintro e x2⟨rfl,a⟩;rw[a];clear a x2;go_wp2;go_ret;exact⟨g.2,rfl,g.1⟩
 . rw[fS i];have hd:decide (8*s.size<p+k)=true:=a0B (by omega);have j:=af hd;clear h m l i hd;go_enter func246,ntmps246;go_wp2_with fail;apply HP.mono;rintro e x1⟨rfl,d,f⟩;have c:=d;unfold Rdr at c;rw[ae j]at c;obtain⟨n,o,q,_⟩:=c;have g:=af f;clear d f HP n o;go_wp2_with fail;apply(gm _).mono;rintro e x2⟨rfl,a⟩;rw[a];clear a x2;exact⟨rfl,g,rfl⟩
def aw.later{w1 w2:World}(h:aw b w w1)(hb:Below w1.heap.size w1 w2)(a:b<w1.heap.size):aw b w w2:=
 ⟨h.1.trans (hb.mono (a0s a)),fun j c d=>(hb.block j (a0h c h.1.size)).trans (h.2 j c d),fun j c=>⟨(hb.cell (p:=⟨b,j,none⟩) a).trans (h.3 j c).1,(hb.frozen (p:=⟨b,j,none⟩) a).trans (h.3 j c).2⟩⟩
def gz(V p:Nat):Option Nat:=if V/2 ^ p%2 ^ ((8-p%8)%8)=0 then some (p+(8-p%8)%8)else none
theorem pO(b p:Nat)(s:ByteArray)(w:World)(h:Rdr w b s p)(j:s.size<=2000000)(i:p<=8*s.size) :
  Calls prog 248 #[.pointer b] w fun e w'=>aw b w w'/\match gz (ak s) p with
   | none=>e=lJ
   | some q=>e = .returned (.tuple #[])/\Rdr w' b s q:=by
 have HP:=af (uq b p s w h j i);unfold gz;by_cases c:ak s/2 ^ p%2 ^ ((8-p%8)%8)=0
 .
  rw[a0d c];rw[a0B c]at HP;clear h j i c;go_enter func248,ntmps248;go_wp2_with fail;apply HP.mono;rintro e x1⟨rfl,g,d⟩;have f:=af (a0b g d);clear g d HP;go_wp2_with fail;apply(dO _).mono;rintro e x2⟨rfl,a⟩;rw[a];clear a x2;go_wp2
  go_end0
  exact⟨f.2,rfl,f.1⟩
 . rw[a0e c];rw[a0m c]at HP;clear h j i c;go_enter func248,ntmps248;go_wp2_with fail;apply HP.mono;rintro e x1⟨rfl,g,d⟩;have f:=af d;clear g d HP;go_wp2_with fail;apply(gm _).mono;rintro e x2⟨rfl,a⟩;rw[a];clear a x2;exact⟨rfl,f,rfl⟩
def xO(L G M b p k:Nat)(s:ByteArray)(w:World)(h:Rdr w b s p)(H:s.size<=2000000)(B:L<=3)(A:1<=G)(j:G<=4)(N:M<=30)(l:∀k,k<M->k/G<=15)(O:k<=1000) :
  Calls prog 282 #[.pointer b,.agg #[L,G,M],k] w (kG w b s (scG (ak s) (8*s.size) L G M k p)):=by
 have F:=h.lt;have z:aw b w (w.alloc (.cells #[L,G,M] 294)):=(aw.refl b w).alloc F _;have o:(w.alloc (.cells #[L,G,M] 294)).heap[w.heap.size]?=some (Obj.cells #[L,G,M] 294):=alloc_at _ _;have r:=h.alloc (.cells #[L,G,M] 294);have J:=af H;unfold kG scG;by_cases u:k<M
 .
  rw[a0d u];have y:(k:Int)<(M:Int):=by omega
  have D:=tF B A j (l k u);have d:=af (fun W=>Fp L G M k W B A j (l k u) (by omega));obtain⟨c0,c1,c2,_⟩:=wu o;have i:=af (a0b z r);clear h H B A j N l O u z r o;generalize Q:stF L G k=E at *;clear Q;obtain⟨E1,E2⟩:=E;simp only at D d ⊢;rcases v:rdN (ak s) (8*s.size) p E2 with _|⟨x,q⟩
  . simp only[a2d];have c:=af v;clear v;go_enter func282,ntmps282;go_wp2_with fail;apply(dO _).mono;rintro e x2⟨rfl,a⟩;rw[a];clear a x2;go_wp2_with fail;apply(d _).mono;rintro e x2⟨rfl,n⟩;have f:=i.1.later n i.2.lt;have g:=i.2.kept (n.mono i.2.lt);have m:=af (cJ b p E2 s x2 g J (by omega));unfold kG at m;rw[ae c]at m;have t:=af f;clear n f g i d c0 c1 c2 c;go_wp2_with fail;apply m.mono;rintro e x3⟨C,rfl⟩;exact⟨rfl,t.trans C,rfl⟩
  .
   simp only[a0f];have c:=af v;have I:=(bV v).2.2.2;have R:(x:Int)<65536:=by
    have S:2 ^ E2<=2 ^ 16:=a0P (by omega) (by omega);omega
   clear v I;go_enter func282,ntmps282;go_wp2_with fail;apply(dO _).mono;rintro e x2⟨rfl,a⟩;rw[a];clear a x2;go_wp2_with fail;apply(d _).mono;rintro e x2⟨rfl,n⟩;have f:=i.1.later n i.2.lt;have g:=i.2.kept (n.mono i.2.lt);have m:=af (cJ b p E2 s x2 g J (by omega));unfold kG at m;rw[ae c]at m;have t:=af f;clear n f g i d c0 c1 c2 c;go_wp2_with fail;apply m.mono;rintro e x3⟨C,rfl,P⟩;have K:=af (a0b (t.trans C) P);clear C P m t;go_wp2;go_ret;exact⟨K.1,aJ (by simp),K.2⟩
 .
  rw[a0e u];have y:¬ (k:Int)<(M:Int):=by omega
  have t:=af z;clear h H B A j N l O u z r o;go_enter func282,ntmps282;go_wp2_with fail;apply(gm _).mono;rintro e x2⟨rfl,a⟩;rw[a];clear a x2;exact⟨rfl,t,rfl⟩
def QN(n:Nat)(h:n<=65535):n ^^^ 65535=65535-n:=by
 apply Nat.eq_of_testBit_eq;intro i;have e1:(65535:Nat)=2 ^ 16-1:=rfl;have e2:65535-n=2 ^ 16-(n+1):=by omega
 rw[e2,Nat.testBit_two_pow_sub_succ (by omega),Nat.testBit_xor,e1,Nat.testBit_two_pow_sub_one];by_cases a:i<16
 . simp[a]
 . have:n.testBit i=false:=Nat.testBit_lt_two_pow (a0h (by omega) (a0P (by omega) (Nat.le_of_not_lt a)));simp[a,this]
def dV(V sz:Nat):Nat->Nat->List UInt8->Option (List UInt8×Nat)
 | 0,p,T=>some (T,p)
 | n+1,p,T=>(rdN V sz p 8).bind fun x=>(fX T ((x.1:Nat),0,0)).bind fun T'=>dV V sz n x.2 T'
def dX(V sz p:Nat)(T:List UInt8):Option (List UInt8×Nat):=
 (gz V p).bind fun q=>(rdN V sz q 16).bind fun a=>(rdN V sz a.2 16).bind fun c=>if c.1=65535-a.1 then dV V sz a.1 c.2 T else none
def Kd: ∀(n p:Nat) (T T':List UInt8) (q:Nat),dV V sz n p T=some (T',q)->p<=sz->q<=sz/\p<=q/\(T.length<=300->T'.length<=300):=by
 intro n;induction n with
 | zero=>
  intro p T T' q h b;simp only[dV,a0l,a0R]at h;obtain⟨rfl,rfl⟩:=h;exact⟨b,a0a _,id⟩
 | succ n ih=>
  intro p T T' q h b;simp only[dV]at h;rcases a:rdN V sz p 8 with _|⟨x,r⟩
  . rw[a]at h;cases h
  .
   rw[a]at h;simp only[a0f]at h;have c:=bV a;rcases h2:fX T ((x:Nat),0,0)with _|T2
   . rw[h2]at h;cases h
   . rw[h2]at h;simp only[a0f]at h;obtain⟨a1,a2,a3⟩:=ih r T2 T' q h c.1;exact⟨a1,by omega,fun _=>a3 (qJ h2)⟩
def Fc(h:gz V p=some q):p<=q/\q=p+(8-p%8)%8:=by
 unfold gz at h
 split at h
 . simp only[a0l]at h;omega
 . cases h
def zM(h:dX V sz p T=some (T',q)):q<=sz/\p<=q/\(T.length<=300->T'.length<=300):=by
 unfold dX at h;rcases b:gz V p with _|r
 . rw[b]at h;cases h
 rw[b]at h;simp only[a0f]at h;rcases h2:rdN V sz r 16 with _|⟨a,f⟩
 . rw[h2]at h;cases h
 rw[h2]at h;simp only[a0f]at h;rcases d:rdN V sz f 16 with _|⟨c,j⟩
 . rw[d]at h;cases h
 rw[d]at h;simp only[a0f]at h
 split at h
 . have g:=Fc b;have i:=bV h2;have e:=bV d;obtain⟨a1,a2,a3⟩:=Kd _ _ _ _ _ h e.1;exact⟨a1,by omega,a3⟩
 . cases h
def lbG(V sz:Nat):List Nat->Nat->List Int->Option (List Int×Nat)
 | [],p,l=>some (l,p)
 | i :: is,p,l=>(rdN V sz p 3).bind fun x=>lbG V sz is x.2 (l.set i ((x.1:Nat):Int))
def kN(V sz many p:Nat):Option (List Int×Nat):=(lbG V sz (bK.take many) p (List.replicate 19 0)).bind fun x=>if ap x.1=true then some x else none
def Ud: ∀(is:List Nat) (p:Nat) (l l':List Int) (q:Nat),lbG V sz is p l=some (l',q)->p<=sz->q<=sz/\p<=q/\l'.length=l.length:=by
 intro is;induction is with
 | nil=>
  intro p l l' q h b;simp only[lbG,a0l,a0R]at h;obtain⟨rfl,rfl⟩:=h;exact⟨b,a0a _,rfl⟩
 | cons i is ih=>
  intro p l l' q h b;simp only[lbG]at h;rcases a:rdN V sz p 3 with _|⟨x,r⟩
  . rw[a]at h;cases h
  . rw[a]at h;simp only[a0f]at h;have c:=bV a;obtain⟨a1,a2,a3⟩:=ih _ _ _ _ h c.1;exact⟨a1,by omega,by rw[a3,a00]⟩
def tf{many:Nat}{l:List Int}(h:kN V sz many p=some (l,q))(b:p<=sz):q<=sz/\p<=q/\ap l=true/\l.length=19:=by
 unfold kN at h;rcases a:lbG V sz (bK.take many) p (List.replicate 19 0)with _|⟨l1,c⟩
 . rw[a]at h;cases h
 .
  rw[a]at h;simp only[a0f]at h
  split at h
  . simp only[a0l,a0R]at h;obtain⟨rfl,rfl⟩:=h;obtain⟨a1,a2,a3⟩:=Ud _ _ _ _ _ a b;exact⟨a1,a2,by assumption,by rw[a3];simp⟩
  . cases h
def er(V sz:Nat)(A:List Int)(k:Int)(q:Nat):Option (List Int×Nat):=
 if k=16 then(if A.length=0 then none else(rdN V sz q 2).bind fun x=>some (A++List.replicate (3+x.1) (A.getD (A.length-1) 0),x.2))
 else if k=17 then(rdN V sz q 3).bind fun x=>some (A++List.replicate (3+x.1) 0,x.2)
 else if k=18 then(rdN V sz q 7).bind fun x=>some (A++List.replicate (11+x.1) 0,x.2)
 else some (A++[k],q)
def lnF(V sz:Nat)(B:List Int)(n:Nat):Nat->Nat->List Int->Option (List Int×Nat)
 | 0,_,_=>none
 | f+1,p,A=>if A.length<n then(dec B V sz p).bind fun k=>(er V sz A k.1 k.2).bind fun x=>lnF V sz B n f x.2 x.1
  else if A.length=n then some (A,p)else none
def lnG(V sz:Nat)(B:List Int)(n p:Nat)(A:List Int):Option (List Int×Nat):=lnF V sz B n (sz+1-p) p A
def nw{A':List Int}{k:Int}{r:Nat}(h:er V sz A k q=some (A',r))(hq:q<=sz):r<=sz/\q<=r/\A.length<A'.length/\A'.length<=A.length+138:=by
 unfold er at h;have key:∀(bt c:Nat) (v:Int),bt<=7->c<=11->3<=c->(rdN V sz q bt).bind (fun x=>some (A++List.replicate (c+x.1) v,x.2))=some (A',r)->r<=sz/\q<=r/\A.length<A'.length/\A'.length<=A.length+138:=by
  intro bt c v b g e h;rcases a:rdN V sz q bt with _|⟨x,t⟩
  . rw[a]at h;cases h
  . rw[a]at h;simp only[a0f,a0l,a0R]at h;obtain⟨rfl,rfl⟩:=h;have d:=bV a;have f:2 ^ bt<=2 ^ 7:=a0P (by omega) b;refine⟨d.1,by omega,?_,?_⟩<;>simp only[a0i,a0y]<;>omega
 split at h
 .
  split at h
  . cases h
  . exact key 2 3 _ (by omega) (by omega) (by omega) h
 .
  split at h
  . exact key 3 3 _ (by omega) (by omega) (by omega) h
  .
   split at h
   . exact key 7 11 _ (by omega) (by omega) (by omega) h
   . simp only[a0l,a0R]at h;obtain⟨rfl,rfl⟩:=h;exact⟨hq,a0a _,by simp,by simp⟩
def OP: ∀(m f p:Nat) (A:List Int),sz+1-p<=m->sz+1-p<=f->p<=sz->lnF V sz B n f p A=lnF V sz B n (sz+1-p) p A:=by
 intro m;induction m with
 | zero=>intro f p A b h2 c;omega
 | succ m ih=>
  intro f p A b h2 c;obtain⟨f',rfl⟩:∃g,f=g+1:=⟨f-1,by omega⟩;obtain⟨m',hm⟩:∃g,sz+1-p=g+1:=⟨sz-p,by omega⟩;rw[hm];simp only[lnF]
  split
  .
   rcases hd:dec B V sz p with _|⟨i,q⟩
   . rfl
   .
    have hb:=gB hd;simp only[a0f];rcases d:er V sz A i q with _|⟨A',r⟩
    . rfl
    . have a:=nw d hb.1;simp only[a0f];rw[ih f' r A' (by omega) (by omega) a.1,ih m' r A' (by omega) (by omega) a.1]
  . rfl
def wW(c:p<=sz)(h:A.length<n):lnG V sz B n p A=(dec B V sz p).bind fun k=>(er V sz A k.1 k.2).bind fun x=>lnG V sz B n x.2 x.1:=by
 unfold lnG;obtain⟨m,hm⟩:∃g,sz+1-p=g+1:=⟨sz-p,by omega⟩;rw[hm];simp only[lnF,a0d h];rcases hd:dec B V sz p with _|⟨i,q⟩
 . rfl
 .
  have hb:=gB hd;simp only[a0f];rcases a:er V sz A i q with _|⟨A',r⟩
  . rfl
  . have b:=nw a hb.1;simp only[a0f];exact OP m m r A' (by omega) (by omega) b.1
def wX(a:p<=sz)(h:¬ A.length<n):lnG V sz B n p A=if A.length=n then some (A,p)else none:=by
 unfold lnG;obtain⟨m,hm⟩:∃g,sz+1-p=g+1:=⟨sz-p,by omega⟩;rw[hm];simp only[lnF,a0e h]
def Ug: ∀(f p:Nat) (A A':List Int) (q:Nat),lnF V sz B n f p A=some (A',q)->p<=sz->q<=sz/\p<=q/\A'.length=n:=by
 intro f;induction f with
 | zero=>intro p A A' q h;simp[lnF]at h
 | succ f ih=>
  intro p A A' q h d;simp only[lnF]at h
  split at h
  .
   rcases hd:dec B V sz p with _|⟨i,r⟩
   . rw[hd]at h;cases h
   .
    rw[hd]at h;have hb:=gB hd;simp only[a0f]at h;rcases a:er V sz A i r with _|⟨A2,g⟩
    . rw[a]at h;cases h
    . rw[a]at h;have e:=nw a hb.1;simp only[a0f]at h;obtain⟨b,h2,c⟩:=ih _ _ _ _ h e.1;exact⟨b,by omega,c⟩
  .
   split at h
   . simp only[a0l,a0R]at h;obtain⟨rfl,rfl⟩:=h;exact⟨d,a0a _,by assumption⟩
   . cases h
def Hw{A':List Int}(h:lnG V sz B n p A=some (A',q))(a:p<=sz):q<=sz/\p<=q/\A'.length=n:=Ug _ _ _ _ _ h a
def vI(V sz n:Nat)(A:List Int)(p:Nat)(T:List UInt8):Option (List UInt8×Nat):=
 if ap (A.take n)=true then(if ap (A.drop n)=true then iP V sz (A.take n) (A.drop n) p T else none)else none
def xC(V sz p:Nat)(T:List UInt8):Option (List UInt8×Nat):=
 (rdN V sz p 5).bind fun a=>(rdN V sz a.2 5).bind fun c=>if a.1+257<=286/\c.1+1<=30 then
  (rdN V sz c.2 4).bind fun m=>(kN V sz (m.1+4) m.2).bind fun B=>(lnG V sz B.1 (a.1+257+(c.1+1)) B.2 []).bind fun A=>vI V sz (a.1+257) A.1 A.2 T else none
def GD(V sz p:Nat)(T:List UInt8):Option (List UInt8×Nat):=iP V sz (cm 288) (List.replicate 32 5) p T
def gw(V sz k p:Nat)(T:List UInt8):Option (List UInt8×Nat):=
 if k=0 then dX V sz p T else if k=1 then GD V sz p T else if k=2 then xC V sz p T else none
def Ka(h:vI V sz n A p T=some (T',q)):q<=sz/\p<q/\(T.length<=300->T'.length<=300):=by
 unfold vI at h
 split at h
 .
  split at h
  . exact Ca h
  . cases h
 . cases h
def Js(h:xC V sz p T=some (T',q)):q<=sz/\p<=q/\(T.length<=300->T'.length<=300):=by
 unfold xC at h;rcases b:rdN V sz p 5 with _|⟨a,k⟩
 . rw[b]at h;cases h
 rw[b]at h;simp only[a0f]at h;rcases h2:rdN V sz k 5 with _|⟨c,l⟩
 . rw[h2]at h;cases h
 rw[h2]at h;simp only[a0f]at h
 split at h
 .
  rcases d:rdN V sz l 4 with _|⟨m,n⟩
  . rw[d]at h;cases h
  rw[d]at h;simp only[a0f]at h;rcases e:kN V sz (m+4) n with _|⟨B,o⟩
  . rw[e]at h;cases h
  rw[e]at h;simp only[a0f]at h;rcases f:lnG V sz B (a+257+(c+1)) o []with _|⟨A,u⟩
  . rw[f]at h;cases h
  rw[f]at h;simp only[a0f]at h;have r:=bV b;have s:=bV h2;have i:=bV d;have j:=tf e i.1;have t:=Hw f j.1;have g:=Ka h;exact⟨g.1,by omega,g.2.2⟩
 . cases h
def wB{k:Nat}(h:gw V sz k p T=some (T',q)):q<=sz/\p<=q/\(T.length<=300->T'.length<=300):=by
 unfold gw at h
 split at h
 . exact zM h
 .
  split at h
  . have:=Ca h;exact⟨this.1,by omega,this.2.2⟩
  .
   split at h
   . exact Js h
   . cases h
def jf(V sz:Nat):Nat->Nat->List UInt8->Option (List UInt8×Nat)
 | 0,_,_=>none
 | f+1,p,T=>(rdN V sz p 1).bind fun a=>(rdN V sz a.2 2).bind fun k=>(gw V sz k.1 k.2 T).bind fun r=>if a.1=1 then some r else jf V sz f r.2 r.1
def gF(V sz p:Nat)(T:List UInt8):Option (List UInt8×Nat):=jf V sz (sz+1-p) p T
def fW(V sz p:Nat)(T:List UInt8):Option (List UInt8×Nat):=(gF V sz p T).bind fun r=>(gz V r.2).bind fun q=>some (r.1,q)
def EZ: ∀(n f p:Nat) (T:List UInt8),sz+1-p<=n->sz+1-p<=f->jf V sz f p T=jf V sz (sz+1-p) p T:=by
 intro n;induction n with
 | zero=>
  intro f p T d h2;have e:sz+1-p=0:=by omega
  rw[e];cases f with
  | zero=>rfl
  | succ f=>
   have hd:rdN V sz p 1=none:=fS (by omega);simp only[jf,hd,a2d]
 | succ n ih=>
  intro f p T d h2;rcases hd:rdN V sz p 1 with _|⟨a,q⟩
  .
   cases f with
   | zero=>rw[show sz+1-p=0 by omega]
   | succ f=>
    rcases b:sz+1-p with _|m
    . simp only[jf,hd,a2d]
    . simp only[jf,hd,a2d]
  .
   have hb:=bV hd;obtain⟨f',rfl⟩:∃g,f=g+1:=⟨f-1,by omega⟩;obtain⟨m,b⟩:∃g,sz+1-p=g+1:=⟨sz-p,by omega⟩;rw[b];simp only[jf,hd,a0f];rcases j:rdN V sz q 2 with _|⟨k,o⟩
   . rfl
   .
    have h:=bV j;simp only[a0f];rcases l:gw V sz k o T with _|⟨T',c⟩
    . rfl
    .
     have i:=wB l;simp only[a0f]
     split
     . rfl
     . rw[ih f' c T' (by omega) (by omega),ih m c T' (by omega) (by omega)]
def oq: gF V sz p T=(rdN V sz p 1).bind fun a=>(rdN V sz a.2 2).bind fun k=>(gw V sz k.1 k.2 T).bind fun r=>if a.1=1 then some r else gF V sz r.2 r.1:=by
 rcases hd:rdN V sz p 1 with _|⟨a,q⟩
 .
  unfold gF;rcases b:sz+1-p with _|m
  . rfl
  . simp only[jf,hd,a2d]
 .
  have hb:=bV hd;unfold gF;obtain⟨m,b⟩:∃g,sz+1-p=g+1:=⟨sz-p,by omega⟩;rw[b];simp only[jf,hd,a0f];rcases e:rdN V sz q 2 with _|⟨k,h⟩
  . rfl
  .
   have c:=bV e;simp only[a0f];rcases f:gw V sz k h T with _|⟨T',i⟩
   . rfl
   .
    have d:=wB f;simp only[a0f]
    split
    . rfl
    . exact EZ m m i T' (by omega) (by omega)
def LS: ∀(f p:Nat) (T T':List UInt8) (q:Nat),jf V sz f p T=some (T',q)->q<=sz/\p<q/\(T.length<=300->T'.length<=300):=by
 intro f;induction f with
 | zero=>intro p T T' q h;simp[jf]at h
 | succ f ih=>
  intro p T T' q h;simp only[jf]at h;rcases hd:rdN V sz p 1 with _|⟨a,g⟩
  . rw[hd]at h;cases h
  rw[hd]at h;simp only[a0f]at h;rcases c:rdN V sz g 2 with _|⟨k,i⟩
  . rw[c]at h;cases h
  rw[c]at h;simp only[a0f]at h;rcases d:gw V sz k i T with _|⟨T2,m⟩
  . rw[d]at h;cases h
  rw[d]at h;simp only[a0f]at h;have j:=bV hd;have l:=bV c;have b:=wB d
  split at h
  . simp only[a0l,a0R]at h;obtain⟨rfl,rfl⟩:=h;exact⟨b.1,by omega,b.2.2⟩
  . have e:=ih _ _ _ _ h;exact⟨e.1,by omega,fun h=>e.2.2 (b.2.2 h)⟩
def LU(h:gF V sz p T=some (T',q)):q<=sz/\p<q/\(T.length<=300->T'.length<=300):=LS _ _ _ _ _ h
def RF(w:World)(b:Nat)(s:ByteArray)(p:Nat)(f:Bool):Prop:=Three w b (.string s) (.int .i64 (min p (8*s.size):Nat)) (.bool f)
def RF.lt(h:RF w b s p f):b<w.heap.size:=h.2.2.2.2.2.2
def RF.kept{w':World}(h:RF w b s p f)(hb:Below (b+1) w w'):RF w' b s p f:=Three.kept h hb
def qt(h:RF w b s p false)(a:p<=8*s.size):Rdr w b s p:=by
 unfold Rdr;rw[a0m (by omega)];exact h
def eO(h:Rdr w b s p):RF w b s p (decide (8*s.size<p)):=h
def RF.cut(h:RF w b s p true):∃q,q<=8*s.size/\RF w b s q true:=⟨min p (8*s.size),Nat.min_le_right _ _,by unfold RF at h ⊢;rw[a1r (Nat.min_le_right p (8*s.size))];exact h⟩
def RF.setBad(h:RF w b s p f):RF (w.setCell ⟨b,2,none⟩ (.bool true)) b s p true:=Three.set2 h _
def RF.bad(h:RF w b s p f):w.cell? ⟨b,2,none⟩=some (.bool f)/\w.frozen? ⟨b,2,none⟩=false:=⟨h.2.2.1,h.2.2.2.2.2.1⟩
def jR(b p c:Nat)(f:Bool)(s:ByteArray)(w:World)(h:RF w b s p f)(j:f=false->p<=8*s.size)(i:s.size<=2000000)(g:c<=16) :
  Calls prog 227 #[.pointer b,.int .i64 (c:Int)] w fun e w'=>e = .returned (.int .i64 (ak s/2 ^ p%2 ^ c:Nat))/\RF w' b s (p+c) (f || decide (8*s.size<p+c))/\aw b w w':=by
 cases f
 . exact(jk b p c s w (qt h (j rfl)) i g).mono fun e w' ⟨a,h2,d⟩=>⟨a,by rw[a2q];exact eO h2,d⟩
 . exact(Gc b p c s w h i g).mono fun e w' ⟨a,h2,d⟩=>⟨a,by rw[a3p];exact h2,d⟩
def sd(b p:Nat)(f:Bool)(s:ByteArray)(w:World)(h:RF w b s p f)(d:p<=8*s.size)(g:s.size<=2000000) :
  Calls prog 196 #[.pointer b] w fun e w'=>e = .returned (.bool (decide (ak s/2 ^ p%2 ^ ((8-p%8)%8)=0)))/\RF w' b s (p+(8-p%8)%8) f/\aw b w w':=by
 cases f
 . exact(BS b p s w (qt h d) g d).mono fun e w' ⟨a,h2,c⟩=>⟨a,by have:=eO h2;rwa[a0m (by omega)]at this,c⟩
 . exact(As b p s w h g d).mono fun e w' ⟨a,h2,c⟩=>⟨a,h2,c⟩
def IE(a ac:Option Addr)(cap d n b p:Nat)(s:ByteArray)(w:World)(h:RF w b s p true) :
  Calls prog 258 #[.pointer b,.slice a n cap,.slice ac n d] w fun e w'=>e = .returned (.int .i64 (-1))/\RF w' b s p true/\aw b w w':=by
 have c:=af h;obtain⟨c2,f2⟩:=h.bad;have f:=h.lt;clear h;go_enter func258,ntmps258;go_wp2_with fail
 go_loopw [6,7,8,9] (fun _ _ lg _ wr=>lg = .int .i64 1/\wr=w) (fun _ _ _ _ _=>0)
 case atStart=>exact⟨rfl,rfl⟩
 case round=>
  obtain⟨rfl,rfl⟩:=hrel;go_wp2;go_ret;exact⟨rfl,c.setBad,bT _ _ _ _⟩
def qH(w:World)(b:Nat)(s:ByteArray)(d:Option (Int×Nat))(e:Ending)(w':World):Prop:=
 aw b w w'/\match d with
  | none=>∃x q,e = .returned (.int .i64 x)/\RF w' b s q true
  | some (i,q)=>e = .returned (.int .i64 i)/\Rdr w' b s q
def tI(a ac:Option Addr)(cap cc n b p:Nat)(l:List Int)(s:ByteArray)(w:World)(hn:l.length=n)(T:ap l=true)
  (hs:s.size<=2000000) (hr:Rdr w b s p) (hp:p<=8*s.size) (a8:∀W,aw b w W->bE W a l) (a7:∀W,aw b w W->bE W ac (aW l 15).2) :
  Calls prog 258 #[.pointer b,.slice a n cap,.slice ac n cc] w (qH w b s (dec l (ak s) (8*s.size) p)):=by
 have Z:=af hn;have HS:=af hs;have aa:=af T;have bd:=af a8;have bc:=af a7;have bs:(n:Int)<=300:=by have:=cG T;omega
 clear hn hs T a8 a7;go_enter func258,ntmps258;go_wp2_with fail
 go_loopw [6,7,8,9] (fun _ c lg _ wr=>∃(N:Nat) (x:Int),N<=15/\lg = .int .i64 ((N:Int)+1)/\c = .int .i64 x/\aw b w wr/\((x=(cd (ak s) p N:Nat)/\nx l N<=cd (ak s) p N/\Rdr wr b s (p+N)/\p+N<=8*s.size/\dec l (ak s) (8*s.size) p=pz l (ak s) (8*s.size) p (15-N) N)∨(dec l (ak s) (8*s.size) p=none/\∃qv,RF wr b s qv true))) (fun _ _ lg _ _=>16-(intOf lg).toNat)
 case atStart=>exact⟨0,0,by omega,rfl,rfl,aw.refl _ _,.inl ⟨rfl,a0a _,hr,by omega,rfl⟩⟩
 case round=>
  obtain⟨N,x,hN,rfl,rfl,u,Q⟩:=hrel;clear hr hp;have bl:(N:Int)<=15:=by omega
  rcases Q with⟨rfl,D,A,U,H⟩|⟨a6,qv,al⟩
  .
   have h3:=A.at U;obtain⟨q0,q1,q2,g0,g1,g2,ao⟩:=h3;have HP:=af U;have bb:=af D;have Y:=af H;have c1:=af (Nu (ak s) p N hN);have cI:(cd (ak s) p N:Int)<=32768:=by have:=ae c1;omega
   clear U D H;by_cases S:N<15
   .
    have G:decide ((N:Int)+1<=15)=true:=a0B (by omega);have F:(ak s/2 ^ (p+N)%2:Nat)=uI (ak s) (p+N):=rfl;have be:Hid (2*(cd (ak s) p N:Int)+(uI (ak s) (p+N):Int)=(cd (ak s) p (N+1):Int)):=by
     show 2*(cd (ak s) p N:Int)+(uI (ak s) (p+N):Int)=(cd (ak s) p (N+1):Int);simp only[cd];omega
    have a1:Hid (2*nx l N<=cd (ak s) p (N+1)):=by
     show 2*nx l N<=cd (ak s) p (N+1);have:=ae bb;simp only[cd];omega
    have ad:=af (fun d h2=>qU (l:=l) (V:=ak s) (sz:=8*s.size) (p:=p) (f:=14-N) (n:=N) d h2);have P:=af (fun d h2=>oP (l:=l) (V:=ak s) (sz:=8*s.size) (p:=p) (f:=14-N) (n:=N) d h2);have r:=af (fun d=>pZ (l:=l) (V:=ak s) (sz:=8*s.size) (p:=p) (f:=14-N) (n:=N) d);have e15:15-N=(14-N)+1:=(by omega);have e14:14-N=15-(N+1):=(by omega);rw[e15]at Y;have bI:(uI (ak s) (p+N):Int)<=1:=(by omega);clear g0 g1 g2 q0 q1 ao;go_wp2_with fail;apply(na b (p+N) s _ A HS).mono;rintro e x1⟨rfl,K,a5⟩;rw[F];have t:=u.trans a5;have M:=af (ae bd x1 t);have L:=af (ae bc x1 t);have m:=af t;have B:=af K;clear A u a5 t K F q2;go_wp2_with fail;rw[ae be]
    go_loopw [6,9] (fun _ i wr=>∃k:Nat,k<=n/\i = .int .i64 k/\wr=x1/\∀j,j<k->l.getD j 0=(N:Int)+1->cz l j≠cd (ak s) p (N+1)) (fun _ i _=>n-(intOf i).toNat)
    case atStart=>exact⟨0,a0g _,rfl,rfl,fun j hj=>absurd hj (by omega)⟩
    case round=>
     obtain⟨k,hk,rfl,rfl,J⟩:=hrel;have O:=af J;clear J;by_cases R:k<n
     .
      have E:Hid (k<l.length):=by show k<l.length;rw[ae Z];exact R
      obtain⟨g,o,rfl,hg,a4⟩:=ae M (by rw[ae Z];omega);have d0:=a4 k (by rw[ae Z];exact R);obtain⟨g',o',rfl,bn,a0⟩:=ae L (by rw[bJ,ae Z];omega);have d1:=a0 k (by rw[bJ,ae Z];exact R);have a2:=af (yW aa E);have Hk:=af hk;have hY:=af (fun h=>sC aa E h);have bk:=af (fun(i:Nat) (d:l.getD i 0=l.getD k 0) (h2:cz l i=cz l k)=>JJ d h2);clear a4 a0 hk M L;generalize a9:l.getD k 0=y at *;have EY:=af a9;clear a9;by_cases hy:y=(N:Int)+1
      .
       have a3:(aW l 15).2.getD k 0=(cz l k:Int):=by have:=ae a2;rw[a0d (by omega)]at this;exact this
       rw[a3]at d1;subst hy;by_cases hc:cz l k=cd (ak s) p (N+1)
       .
        have z:=ae hY (by omega);have eN:((N:Int)+1).toNat=N+1:=(by omega);rw[eN]at z;rw[hc]at d1;have ab:Hid (qH w b s (dec l (ak s) (8*s.size) p) (.returned (.int .i64 (k:Int))) wr):=by
         show qH w b s (dec l (ak s) (8*s.size) p) (.returned (.int .i64 (k:Int))) wr;refine⟨m,?_⟩;by_cases q:8*s.size<p+N+1
         . rw[ae Y,ae r q];exact⟨_,_,rfl,B.three q⟩
         .
          have I:cd (ak s) p (N+1)<nx l (N+1):=by rw[←hc];exact z.2
          rw[ae Y,ae ad q I];obtain⟨i,hi,d,h2,h3⟩:=tH (l:=l) S a1 I;have:i=k:=JJ (d.trans EY.symm) (h2.trans hc.symm);subst this;exact⟨by rw[h3],B⟩
        clear z;generalize cd (ak s) p (N+1)=X at *;go_wp2;go_ret;exact ab
       .
        have g1:((cz l k:Int) == (cd (ak s) p (N+1):Int))=false:=by rw[a0X];omega
        have v:Hid (∀j,j<k+1->l.getD j 0=(N:Int)+1->cz l j≠cd (ak s) p (N+1)):=by
         show ∀j,j<k+1->l.getD j 0=(N:Int)+1->cz l j≠cd (ak s) p (N+1);intro j hj d;by_cases e:j=k
         . subst e;exact hc
         . exact O j (by omega) d
        go_wp2;go_roundw
        case rel=>exact⟨k+1,by have:=ae Hk;omega,by go_num,by first|rfl|trivial,v⟩
        case measure=>simp[intOf];omega
      .
       have g1:(y == (N:Int)+1)=false:=by simpa using hy
       have v:Hid (∀j,j<k+1->l.getD j 0=(N:Int)+1->cz l j≠cd (ak s) p (N+1)):=by
        show ∀j,j<k+1->l.getD j 0=(N:Int)+1->cz l j≠cd (ak s) p (N+1);intro j hj d;by_cases e:j=k
        . subst e;rw[ae EY]at d;exact absurd d hy
        . exact O j (by omega) d
       go_wp2;go_roundw
       case rel=>exact⟨k+1,by have:=ae Hk;omega,by go_num,by first|rfl|trivial,v⟩
       case measure=>simp[intOf];omega
     .
      have E:k=l.length:=by have:=ae Z;omega
      subst E;have ba:Hid ((cd (ak s) p (N+1):Int)=((cd (ak s) p (N+1):Nat):Int)/\((nx l (N+1)<=cd (ak s) p (N+1)/\Rdr wr b s (p+(N+1))/\p+(N+1)<=8*s.size/\dec l (ak s) (8*s.size) p=pz l (ak s) (8*s.size) p (15-(N+1)) (N+1))∨(dec l (ak s) (8*s.size) p=none/\∃qv,RF wr b s qv true))):=by
       refine⟨rfl,?_⟩;by_cases q:8*s.size<p+N+1
       . exact .inr ⟨by rw[ae Y,ae r q],_,B.three q⟩
       .
        have D:nx l (N+1)<=cd (ak s) p (N+1):=by
         rcases a1o (cd (ak s) p (N+1)) (nx l (N+1))with h|h
         . obtain⟨i,hi,d,h2,h3⟩:=tH (l:=l) S a1 h;exact absurd h2 (ae O i hi d)
         . exact h
        exact .inl ⟨D,B,by omega,by rw[ae Y,ae P q (by omega),e14]⟩
      clear M L;go_wp2;go_roundw
      case rel=>
       refine⟨N+1,(cd (ak s) p (N+1):Nat),by omega,by go_num,rfl,m,?_⟩;rcases ba.2 with h|h
       . exact .inl ⟨rfl,h⟩
       . exact .inr h
      case measure=>simp[intOf];omega
   .
    obtain rfl:N=15:=by omega
    have Hn:Hid (dec l (ak s) (8*s.size) p=none):=ae Y;have C:=af (eO A);have m:=af u;clear A u;go_wp2;go_ret;unfold qH;rw[ae Hn];exact⟨m.trans (bT _ _ _ _),_,_,rfl,C.setBad⟩
  .
   have h3:Three wr b (.string s) (.int .i64 (min qv (8*s.size):Nat)) (.bool true):=al;have C:=af al;have m:=af u;have Hn:=af a6;obtain⟨q0,q1,q2,g0,g1,g2,ao⟩:=h3;clear u a6;by_cases S:(N:Int)<15
   . have G:decide ((N:Int)+1<=15)=true:=a0B (by omega);go_wp2;go_ret;unfold qH;rw[ae Hn];exact⟨m.trans (bT _ _ _ _),_,_,rfl,C.setBad⟩
   . have G:decide ((N:Int)+1<=15)=false:=a0m (by omega);go_wp2;go_ret;unfold qH;rw[ae Hn];exact⟨m.trans (bT _ _ _ _),_,_,rfl,C.setBad⟩
