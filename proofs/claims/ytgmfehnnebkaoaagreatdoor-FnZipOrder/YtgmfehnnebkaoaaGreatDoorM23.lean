/- Of what the proof is made: 5 texts, one behind the other. -/
import Derived.Test.YtgmfehnnebkaoaaGreatDoorM22
import Derived.Test.YtgmfehnnebkaoaaGreatDoorM21
import Derived.Test.YtgmfehnnebkaoaaGreatDoorM9
import Derived.Test.YtgmfehnnebkaoaaGreatDoorM18
import Derived.WalkLawsBesides
import Derived.Test.YtgmfehnnebkaoaaGreatDoorM3
set_option maxRecDepth 100000
set_option linter.unusedSimpArgs false
set_option linter.unusedVariables false
set_option maxHeartbeats 1600000
namespace Go.Proofs.YtgmfehnnebkaoaaGreatDoor
open Go.Proofs.Tryz
open Go.RowKit Corb
variable {A B:List Int}{T T':List UInt8}{V n p q sz:Nat}
def jO:Ending:=.panicked [{ v:=.iface 252 (.agg #[]),recovered:=false }]
theorem df(w:World):Calls prog 217 #[.bool true] w fun e w'=>e = .returned (.tuple #[])/\w'=w:=by
 go_enter func217,ntmps217;go_wp2
 go_end0
 exact⟨rfl,rfl⟩
theorem eZ(w:World):Calls prog 217 #[.bool false] w fun e w'=>e=jO/\w'=w:=by
 go_enter func217,ntmps217;go_wp2;exact⟨rfl,rfl,rfl⟩
def iW(w:World)(b:Nat)(s:ByteArray)(d:Option (Nat×Nat))(e:Ending)(w':World):Prop:=
 aG b w w'/\match d with
  | none=>e=jO
  | some (x,q)=>e = .returned (.int .i64 (x:Nat))/\Rdr w' b s q
theorem bX(b p k:Nat)(s:ByteArray)(w:World)(h:Rdr w b s p)(m:s.size<=2000000)(l:k<=16) :
  Calls prog 216 #[.pointer (some ⟨b,0,none⟩),.int .i64 (k:Int)] w (iW w b s (rdN (aE s) (8*s.size) p k)):=by
 have HP:=af (uK b p k 0 s w h m l);unfold iW;by_cases i:p+k<=8*s.size
 . rw[nr i];have hd:decide (8*s.size<p+k)=false:=a0v (by omega);have j:=af hd;clear h m l i hd;go_enter func216,ntmps216;go_wp2_with fail;refine(ae HP).mono ?_;rintro e x1 ⟨rfl,d,f⟩;have c:=d;unfold Rdr at c;rw[ae j]at c;obtain⟨n,o,q,_⟩:=c;have g:=af (a0b d f);clear d f HP n o;go_wp2_with fail;refine(df _).mono ?_;rintro e x2 ⟨rfl,a⟩;rw[a];clear a x2;go_wp2;go_ret;exact⟨(ae g).2,rfl,(ae g).1⟩
 . rw[qD i];have hd:decide (8*s.size<p+k)=true:=a0F (by omega);have j:=af hd;clear h m l i hd;go_enter func216,ntmps216;go_wp2_with fail;refine(ae HP).mono ?_;rintro e x1 ⟨rfl,d,f⟩;have c:=d;unfold Rdr at c;rw[ae j]at c;obtain⟨n,o,q,_⟩:=c;have g:=af f;clear d f HP n o;go_wp2_with fail;refine(eZ _).mono ?_;rintro e x2 ⟨rfl,a⟩;rw[a];clear a x2;exact⟨rfl,ae g,rfl⟩
theorem aG.later{b:Nat}{w w1 w2:World}(h:aG b w w1)(hb:Below w1.heap.size w1 w2)(a:b<w1.heap.size):aG b w w2:=
 ⟨h.1.trans (hb.mono (a0w a)),fun j c d=>(hb.block j (a0h c h.1.size)).trans (h.2 j c d),fun j c=>⟨(hb.cell (p:=⟨b,j,none⟩) a).trans (h.3 j c).1,(hb.frozen (p:=⟨b,j,none⟩) a).trans (h.3 j c).2⟩⟩
def kH(V p:Nat):Option Nat:=if V/2 ^ p%2 ^ ((8-p%8)%8)=0 then some (p+(8-p%8)%8)else none
theorem nR(b p:Nat)(s:ByteArray)(w:World)(h:Rdr w b s p)(j:s.size<=2000000)(i:p<=8*s.size) :
  Calls prog 218 #[.pointer (some ⟨b,0,none⟩)] w fun e w'=>aG b w w'/\match kH (aE s) p with
   | none=>e=jO
   | some q=>e = .returned (.tuple #[])/\Rdr w' b s q:=by
 have HP:=af (rB b p s w h j i);unfold kH;by_cases c:aE s/2 ^ p%2 ^ ((8-p%8)%8)=0
 .
  rw[a0d c];rw[a0F c]at HP;clear h j i c;go_enter func218,ntmps218;go_wp2_with fail;refine(ae HP).mono ?_;rintro e x1 ⟨rfl,g,d⟩;have f:=af (a0b g d);clear g d HP;go_wp2_with fail;refine(df _).mono ?_;rintro e x2 ⟨rfl,a⟩;rw[a];clear a x2;go_wp2
  go_end0
  exact⟨(ae f).2,rfl,(ae f).1⟩
 . rw[a0e c];rw[a0v c]at HP;clear h j i c;go_enter func218,ntmps218;go_wp2_with fail;refine(ae HP).mono ?_;rintro e x1 ⟨rfl,g,d⟩;have f:=af d;clear g d HP;go_wp2_with fail;refine(eZ _).mono ?_;rintro e x2 ⟨rfl,a⟩;rw[a];clear a x2;exact⟨rfl,ae f,rfl⟩
theorem uO(L G M b p k:Nat)(s:ByteArray)(w:World)(h:Rdr w b s p)(H:s.size<=2000000)(B:L<=3)(A:1<=G)(j:G<=4)(N:M<=30)(l:∀k,k<M->k/G<=15)(O:k<=1000) :
  Calls prog 262 #[.pointer (some ⟨b,0,none⟩),.agg #[.int .i64 (L:Nat),.int .i64 (G:Nat),.int .i64 (M:Nat)],.int .i64 (k:Nat)] w (iW w b s (scG (aE s) (8*s.size) L G M k p)):=by
 have F:=h.lt;have z:aG b w (w.alloc (.cells #[.int .i64 (L:Nat),.int .i64 (G:Nat),.int .i64 (M:Nat)] 260)):=(aG.refl b w).alloc F _;have o:(w.alloc (.cells #[.int .i64 (L:Nat),.int .i64 (G:Nat),.int .i64 (M:Nat)] 260)).heap[w.heap.size]?=some (Obj.cells #[.int .i64 (L:Nat),.int .i64 (G:Nat),.int .i64 (M:Nat)] 260):=alloc_at _ _;have r:=h.alloc (.cells #[.int .i64 (L:Nat),.int .i64 (G:Nat),.int .i64 (M:Nat)] 260);have J:=af H;unfold iW scG;by_cases u:k<M
 .
  rw[a0d u];have y:(k:Int)<(M:Int):=by omega
  have D:=yA B A j (l k u);have d:=af (fun W=>Bv L G M k W B A j (l k u) (by omega));obtain⟨c0,c1,c2,_⟩:=zW o;have i:=af (a0b z r);clear h H B A j N l O u z r o;generalize Q:stF L G k=E at *
  clear Q;obtain⟨E1,E2⟩:=E;simp only at D d ⊢;rcases v:rdN (aE s) (8*s.size) p E2 with _|⟨x,q⟩
  . simp only[a15];have c:=af v;clear v;go_enter func262,ntmps262;go_wp2_with fail;refine(df _).mono ?_;rintro e x2 ⟨rfl,a⟩;rw[a];clear a x2;go_wp2_with fail;refine(ae d _).mono ?_;rintro e x2 ⟨rfl,n⟩;have f:=(ae i).1.later n (ae i).2.lt;have g:=(ae i).2.kept (n.mono (ae i).2.lt);have m:=af (bX b p E2 s x2 g (ae J) (by omega));unfold iW at m;rw[ae c]at m;have t:=af f;clear n f g i d c0 c1 c2 c;go_wp2_with fail;refine(ae m).mono ?_;rintro e x3 ⟨C,rfl⟩;exact⟨rfl,(ae t).trans C,rfl⟩
  .
   simp only[a0f];have c:=af v;have I:=(bS v).2.2.2;have R:(x:Int)<65536:=by
    have S:2 ^ E2<=2 ^ 16:=a0T (by omega) (by omega);omega
   clear v I;go_enter func262,ntmps262;go_wp2_with fail;refine(df _).mono ?_;rintro e x2 ⟨rfl,a⟩;rw[a];clear a x2;go_wp2_with fail;refine(ae d _).mono ?_;rintro e x2 ⟨rfl,n⟩;have f:=(ae i).1.later n (ae i).2.lt;have g:=(ae i).2.kept (n.mono (ae i).2.lt);have m:=af (bX b p E2 s x2 g (ae J) (by omega));unfold iW at m;rw[ae c]at m;have t:=af f;clear n f g i d c0 c1 c2 c;go_wp2_with fail;refine(ae m).mono ?_;rintro e x3 ⟨C,rfl,P⟩;have K:=af (a0b ((ae t).trans C) P);clear C P m t;go_wp2;go_ret;exact⟨(ae K).1,aJ (by simp),(ae K).2⟩
 .
  rw[a0e u];have y:¬ (k:Int)<(M:Int):=by omega
  have t:=af z;clear h H B A j N l O u z r o;go_enter func262,ntmps262;go_wp2_with fail;refine(eZ _).mono ?_;rintro e x2 ⟨rfl,a⟩;rw[a];clear a x2;exact⟨rfl,ae t,rfl⟩
theorem Ms(n:Nat)(h:n<=65535):n ^^^ 65535=65535-n:=by
 apply Nat.eq_of_testBit_eq;intro i;have e1:(65535:Nat)=2 ^ 16-1:=rfl;have e2:65535-n=2 ^ 16-(n+1):=by omega
 rw[e2,Nat.testBit_two_pow_sub_succ (by omega),Nat.testBit_xor,e1,Nat.testBit_two_pow_sub_one];by_cases a:i<16
 . simp[a]
 . have:n.testBit i=false:=Nat.testBit_lt_two_pow (a0h (by omega) (a0T (by omega) (Nat.le_of_not_lt a)));simp[a,this]
def iY(V sz:Nat):Nat->Nat->List UInt8->Option (List UInt8×Nat)
 | 0,p,T=>some (T,p)
 | n+1,p,T=>(rdN V sz p 8).bind fun x=>(eu T ((x.1:Nat),0,0)).bind fun T'=>iY V sz n x.2 T'
def jg(V sz p:Nat)(T:List UInt8):Option (List UInt8×Nat):=
 (kH V p).bind fun q=>(rdN V sz q 16).bind fun a=>(rdN V sz a.2 16).bind fun c=>if c.1=65535-a.1 then iY V sz a.1 c.2 T else none
theorem FP: ∀(n p:Nat) (T T':List UInt8) (q:Nat),iY V sz n p T=some (T',q)->p<=sz->q<=sz/\p<=q/\(T.length<=300->T'.length<=300):=by
 intro n;induction n with
 | zero=>
  intro p T T' q h b;simp only[iY,a0k,a0W]at h;obtain⟨rfl,rfl⟩:=h;exact⟨b,a0a _,id⟩
 | succ n ih=>
  intro p T T' q h b;simp only[iY]at h;rcases a:rdN V sz p 8 with _|⟨x,r⟩
  . rw[a]at h;cases h
  .
   rw[a]at h;simp only[a0f]at h;have c:=bS a;rcases h2:eu T ((x:Nat),0,0)with _|T2
   . rw[h2]at h;cases h
   . rw[h2]at h;simp only[a0f]at h;obtain⟨a1,a2,a3⟩:=ih r T2 T' q h c.1;exact⟨a1,by omega,fun _=>a3 (oG h2)⟩
theorem Bj(h:kH V p=some q):p<=q/\q=p+(8-p%8)%8:=by
 unfold kH at h
 split at h
 . simp only[a0k]at h;omega
 . cases h
theorem wK(h:jg V sz p T=some (T',q)):q<=sz/\p<=q/\(T.length<=300->T'.length<=300):=by
 unfold jg at h;rcases b:kH V p with _|r
 . rw[b]at h;cases h
 rw[b]at h;simp only[a0f]at h;rcases h2:rdN V sz r 16 with _|⟨a,f⟩
 . rw[h2]at h;cases h
 rw[h2]at h;simp only[a0f]at h;rcases d:rdN V sz f 16 with _|⟨c,j⟩
 . rw[d]at h;cases h
 rw[d]at h;simp only[a0f]at h
 split at h
 . have g:=Bj b;have i:=bS h2;have e:=bS d;obtain⟨a1,a2,a3⟩:=FP _ _ _ _ _ h e.1;exact⟨a1,by omega,a3⟩
 . cases h
def lbG(V sz:Nat):List Nat->Nat->List Int->Option (List Int×Nat)
 | [],p,l=>some (l,p)
 | i :: is,p,l=>(rdN V sz p 3).bind fun x=>lbG V sz is x.2 (l.set i ((x.1:Nat):Int))
def jS(V sz many p:Nat):Option (List Int×Nat):=(lbG V sz (bB.take many) p (List.replicate 19 0)).bind fun x=>if av x.1=true then some x else none
theorem OX: ∀(is:List Nat) (p:Nat) (l l':List Int) (q:Nat),lbG V sz is p l=some (l',q)->p<=sz->q<=sz/\p<=q/\l'.length=l.length:=by
 intro is;induction is with
 | nil=>
  intro p l l' q h b;simp only[lbG,a0k,a0W]at h;obtain⟨rfl,rfl⟩:=h;exact⟨b,a0a _,rfl⟩
 | cons i is ih=>
  intro p l l' q h b;simp only[lbG]at h;rcases a:rdN V sz p 3 with _|⟨x,r⟩
  . rw[a]at h;cases h
  . rw[a]at h;simp only[a0f]at h;have c:=bS a;obtain⟨a1,a2,a3⟩:=ih _ _ _ _ h c.1;exact⟨a1,by omega,by rw[a3,a1w]⟩
theorem wt{many:Nat}{l:List Int}(h:jS V sz many p=some (l,q))(b:p<=sz):q<=sz/\p<=q/\av l=true/\l.length=19:=by
 unfold jS at h;rcases a:lbG V sz (bB.take many) p (List.replicate 19 0)with _|⟨l1,c⟩
 . rw[a]at h;cases h
 .
  rw[a]at h;simp only[a0f]at h
  split at h
  . simp only[a0k,a0W]at h;obtain⟨rfl,rfl⟩:=h;obtain⟨a1,a2,a3⟩:=OX _ _ _ _ _ a b;exact⟨a1,a2,by assumption,by rw[a3];simp⟩
  . cases h
def ig(V sz:Nat)(A:List Int)(k:Int)(q:Nat):Option (List Int×Nat):=
 if k=16 then(if A.length=0 then none else(rdN V sz q 2).bind fun x=>some (A++List.replicate (3+x.1) (A.getD (A.length-1) 0),x.2))
 else if k=17 then(rdN V sz q 3).bind fun x=>some (A++List.replicate (3+x.1) 0,x.2)
 else if k=18 then(rdN V sz q 7).bind fun x=>some (A++List.replicate (11+x.1) 0,x.2)
 else some (A++[k],q)
def lnF(V sz:Nat)(B:List Int)(n:Nat):Nat->Nat->List Int->Option (List Int×Nat)
 | 0,_,_=>none
 | f+1,p,A=>if A.length<n then(dec B V sz p).bind fun k=>(ig V sz A k.1 k.2).bind fun x=>lnF V sz B n f x.2 x.1
  else if A.length=n then some (A,p)else none
def lnG(V sz:Nat)(B:List Int)(n p:Nat)(A:List Int):Option (List Int×Nat):=lnF V sz B n (sz+1-p) p A
theorem sL{A':List Int}{k:Int}{r:Nat}(h:ig V sz A k q=some (A',r))(hq:q<=sz):r<=sz/\q<=r/\A.length<A'.length/\A'.length<=A.length+138:=by
 unfold ig at h;have key:∀(bt c:Nat) (v:Int),bt<=7->c<=11->3<=c->(rdN V sz q bt).bind (fun x=>some (A++List.replicate (c+x.1) v,x.2))=some (A',r)->r<=sz/\q<=r/\A.length<A'.length/\A'.length<=A.length+138:=by
  intro bt c v b g e h;rcases a:rdN V sz q bt with _|⟨x,t⟩
  . rw[a]at h;cases h
  . rw[a]at h;simp only[a0f,a0k,a0W]at h;obtain⟨rfl,rfl⟩:=h;have d:=bS a;have f:2 ^ bt<=2 ^ 7:=a0T (by omega) b;refine⟨d.1,by omega,?_,?_⟩<;>simp only[a0i,a0y]<;>omega
 split at h
 .
  split at h
  . cases h
  . exact key 2 3 _ (by omega) (by omega) (by omega) h
 .
  split at h
  . exact key 3 3 _ (by omega) (by omega) (by omega) h
  .
   split at h
   . exact key 7 11 _ (by omega) (by omega) (by omega) h
   . simp only[a0k,a0W]at h;obtain⟨rfl,rfl⟩:=h;exact⟨hq,a0a _,by simp,by simp⟩
theorem Kq: ∀(m f p:Nat) (A:List Int),sz+1-p<=m->sz+1-p<=f->p<=sz->lnF V sz B n f p A=lnF V sz B n (sz+1-p) p A:=by
 intro m;induction m with
 | zero=>intro f p A b h2 c;omega
 | succ m ih=>
  intro f p A b h2 c;obtain⟨f',rfl⟩:∃g,f=g+1:=⟨f-1,by omega⟩;obtain⟨m',hm⟩:∃g,sz+1-p=g+1:=⟨sz-p,by omega⟩;rw[hm];simp only[lnF]
  split
  .
   rcases hd:dec B V sz p with _|⟨i,q⟩
   . rfl
   .
    have hb:=gJ hd;simp only[a0f];rcases d:ig V sz A i q with _|⟨A',r⟩
    . rfl
    . have a:=sL d hb.1;simp only[a0f];rw[ih f' r A' (by omega) (by omega) a.1,ih m' r A' (by omega) (by omega) a.1]
  . rfl
theorem Aw(c:p<=sz)(h:A.length<n):lnG V sz B n p A=(dec B V sz p).bind fun k=>(ig V sz A k.1 k.2).bind fun x=>lnG V sz B n x.2 x.1:=by
 unfold lnG;obtain⟨m,hm⟩:∃g,sz+1-p=g+1:=⟨sz-p,by omega⟩;rw[hm];simp only[lnF,a0d h];rcases hd:dec B V sz p with _|⟨i,q⟩
 . rfl
 .
  have hb:=gJ hd;simp only[a0f];rcases a:ig V sz A i q with _|⟨A',r⟩
  . rfl
  . have b:=sL a hb.1;simp only[a0f];exact Kq m m r A' (by omega) (by omega) b.1
theorem Ax(a:p<=sz)(h:¬ A.length<n):lnG V sz B n p A=if A.length=n then some (A,p)else none:=by
 unfold lnG;obtain⟨m,hm⟩:∃g,sz+1-p=g+1:=⟨sz-p,by omega⟩;rw[hm];simp only[lnF,a0e h]
theorem O8: ∀(f p:Nat) (A A':List Int) (q:Nat),lnF V sz B n f p A=some (A',q)->p<=sz->q<=sz/\p<=q/\A'.length=n:=by
 intro f;induction f with
 | zero=>intro p A A' q h;simp[lnF]at h
 | succ f ih=>
  intro p A A' q h d;simp only[lnF]at h
  split at h
  .
   rcases hd:dec B V sz p with _|⟨i,r⟩
   . rw[hd]at h;cases h
   .
    rw[hd]at h;have hb:=gJ hd;simp only[a0f]at h;rcases a:ig V sz A i r with _|⟨A2,g⟩
    . rw[a]at h;cases h
    . rw[a]at h;have e:=sL a hb.1;simp only[a0f]at h;obtain⟨b,h2,c⟩:=ih _ _ _ _ h e.1;exact⟨b,by omega,c⟩
  .
   split at h
   . simp only[a0k,a0W]at h;obtain⟨rfl,rfl⟩:=h;exact⟨d,a0a _,by assumption⟩
   . cases h
theorem Kr{A':List Int}(h:lnG V sz B n p A=some (A',q))(a:p<=sz):q<=sz/\p<=q/\A'.length=n:=O8 _ _ _ _ _ h a
def sT(V sz n:Nat)(A:List Int)(p:Nat)(T:List UInt8):Option (List UInt8×Nat):=
 if av (A.take n)=true then(if av (A.drop n)=true then lx V sz (A.take n) (A.drop n) p T else none)else none
def uC(V sz p:Nat)(T:List UInt8):Option (List UInt8×Nat):=
 (rdN V sz p 5).bind fun a=>(rdN V sz a.2 5).bind fun c=>if a.1+257<=286/\c.1+1<=30 then
  (rdN V sz c.2 4).bind fun m=>(jS V sz (m.1+4) m.2).bind fun B=>(lnG V sz B.1 (a.1+257+(c.1+1)) B.2 []).bind fun A=>sT V sz (a.1+257) A.1 A.2 T else none
def Dc(V sz p:Nat)(T:List UInt8):Option (List UInt8×Nat):=lx V sz (bQ 288) (List.replicate 32 5) p T
def gB(V sz k p:Nat)(T:List UInt8):Option (List UInt8×Nat):=
 if k=0 then jg V sz p T else if k=1 then Dc V sz p T else if k=2 then uC V sz p T else none
theorem FM(h:sT V sz n A p T=some (T',q)):q<=sz/\p<q/\(T.length<=300->T'.length<=300):=by
 unfold sT at h
 split at h
 .
  split at h
  . exact yD h
  . cases h
 . cases h
theorem Fe(h:uC V sz p T=some (T',q)):q<=sz/\p<=q/\(T.length<=300->T'.length<=300):=by
 unfold uC at h;rcases b:rdN V sz p 5 with _|⟨a,k⟩
 . rw[b]at h;cases h
 rw[b]at h;simp only[a0f]at h;rcases h2:rdN V sz k 5 with _|⟨c,l⟩
 . rw[h2]at h;cases h
 rw[h2]at h;simp only[a0f]at h
 split at h
 .
  rcases d:rdN V sz l 4 with _|⟨m,n⟩
  . rw[d]at h;cases h
  rw[d]at h;simp only[a0f]at h;rcases e:jS V sz (m+4) n with _|⟨B,o⟩
  . rw[e]at h;cases h
  rw[e]at h;simp only[a0f]at h;rcases f:lnG V sz B (a+257+(c+1)) o []with _|⟨A,u⟩
  . rw[f]at h;cases h
  rw[f]at h;simp only[a0f]at h;have r:=bS b;have s:=bS h2;have i:=bS d;have j:=wt e i.1;have t:=Kr f j.1;have g:=FM h;exact⟨g.1,by omega,g.2.2⟩
 . cases h
theorem tQ{k:Nat}(h:gB V sz k p T=some (T',q)):q<=sz/\p<=q/\(T.length<=300->T'.length<=300):=by
 unfold gB at h
 split at h
 . exact wK h
 .
  split at h
  . have:=yD h;exact⟨this.1,by omega,this.2.2⟩
  .
   split at h
   . exact Fe h
   . cases h
def gR(V sz:Nat):Nat->Nat->List UInt8->Option (List UInt8×Nat)
 | 0,_,_=>none
 | f+1,p,T=>(rdN V sz p 1).bind fun a=>(rdN V sz a.2 2).bind fun k=>(gB V sz k.1 k.2 T).bind fun r=>if a.1=1 then some r else gR V sz f r.2 r.1
def iE(V sz p:Nat)(T:List UInt8):Option (List UInt8×Nat):=gR V sz (sz+1-p) p T
def lA(V sz p:Nat)(T:List UInt8):Option (List UInt8×Nat):=(iE V sz p T).bind fun r=>(kH V r.2).bind fun q=>some (r.1,q)
theorem Bf: ∀(n f p:Nat) (T:List UInt8),sz+1-p<=n->sz+1-p<=f->gR V sz f p T=gR V sz (sz+1-p) p T:=by
 intro n;induction n with
 | zero=>
  intro f p T d h2;have e:sz+1-p=0:=by omega
  rw[e];cases f with
  | zero=>rfl
  | succ f=>
   have hd:rdN V sz p 1=none:=qD (by omega);simp only[gR,hd,a15]
 | succ n ih=>
  intro f p T d h2;rcases hd:rdN V sz p 1 with _|⟨a,q⟩
  .
   cases f with
   | zero=>rw[show sz+1-p=0 by omega]
   | succ f=>
    rcases b:sz+1-p with _|m
    . simp only[gR,hd,a15]
    . simp only[gR,hd,a15]
  .
   have hb:=bS hd;obtain⟨f',rfl⟩:∃g,f=g+1:=⟨f-1,by omega⟩;obtain⟨m,b⟩:∃g,sz+1-p=g+1:=⟨sz-p,by omega⟩;rw[b];simp only[gR,hd,a0f];rcases j:rdN V sz q 2 with _|⟨k,o⟩
   . rfl
   .
    have h:=bS j;simp only[a0f];rcases l:gB V sz k o T with _|⟨T',c⟩
    . rfl
    .
     have i:=tQ l;simp only[a0f]
     split
     . rfl
     . rw[ih f' c T' (by omega) (by omega),ih m c T' (by omega) (by omega)]
theorem ry: iE V sz p T=(rdN V sz p 1).bind fun a=>(rdN V sz a.2 2).bind fun k=>(gB V sz k.1 k.2 T).bind fun r=>if a.1=1 then some r else iE V sz r.2 r.1:=by
 rcases hd:rdN V sz p 1 with _|⟨a,q⟩
 .
  unfold iE;rcases b:sz+1-p with _|m
  . rfl
  . simp only[gR,hd,a15]
 .
  have hb:=bS hd;unfold iE;obtain⟨m,b⟩:∃g,sz+1-p=g+1:=⟨sz-p,by omega⟩;rw[b];simp only[gR,hd,a0f];rcases e:rdN V sz q 2 with _|⟨k,h⟩
  . rfl
  .
   have c:=bS e;simp only[a0f];rcases f:gB V sz k h T with _|⟨T',i⟩
   . rfl
   .
    have d:=tQ f;simp only[a0f]
    split
    . rfl
    . exact Bf m m i T' (by omega) (by omega)
theorem Hh: ∀(f p:Nat) (T T':List UInt8) (q:Nat),gR V sz f p T=some (T',q)->q<=sz/\p<q/\(T.length<=300->T'.length<=300):=by
 intro f;induction f with
 | zero=>intro p T T' q h;simp[gR]at h
 | succ f ih=>
  intro p T T' q h;simp only[gR]at h;rcases hd:rdN V sz p 1 with _|⟨a,g⟩
  . rw[hd]at h;cases h
  rw[hd]at h;simp only[a0f]at h;rcases c:rdN V sz g 2 with _|⟨k,i⟩
  . rw[c]at h;cases h
  rw[c]at h;simp only[a0f]at h;rcases d:gB V sz k i T with _|⟨T2,m⟩
  . rw[d]at h;cases h
  rw[d]at h;simp only[a0f]at h;have j:=bS hd;have l:=bS c;have b:=tQ d
  split at h
  . simp only[a0k,a0W]at h;obtain⟨rfl,rfl⟩:=h;exact⟨b.1,by omega,b.2.2⟩
  . have e:=ih _ _ _ _ h;exact⟨e.1,by omega,fun h=>e.2.2 (b.2.2 h)⟩
theorem Hi(h:iE V sz p T=some (T',q)):q<=sz/\p<q/\(T.length<=300->T'.length<=300):=Hh _ _ _ _ _ h
end Go.Proofs.YtgmfehnnebkaoaaGreatDoor
