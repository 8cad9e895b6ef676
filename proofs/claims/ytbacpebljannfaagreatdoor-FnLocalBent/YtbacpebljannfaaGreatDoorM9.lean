/- Of what the proof is made: 3 texts, one behind the other. -/
import Derived.Test.YtbacpebljannfaaGreatDoorM7
import Derived.Test.YtbacpebljannfaaGreatDoorM5
import Derived.Deep.RegionWith
set_option linter.unusedSimpArgs false
namespace Go.Proofs.YtbacpebljannfaaGreatDoor
open Go.RowKit
abbrev Tk:=Int×Int×Int
def k0:Tk:=(0,0,0)
def xz(w:World)(a:Option Addr)(l:List Tk):Prop:=
 0<l.length->∃g o,a=some ⟨g,o,none⟩/\g<w.heap.size/\∀i,i<l.length->w.cell? ⟨g,o+i*3,none⟩=some (.int .i64 (l.getD i k0).1)/\w.cell? ⟨g,o+i*3+1,none⟩=some (.int .i64 (l.getD i k0).2.1)/\w.cell? ⟨g,o+i*3+2,none⟩=some (.int .i64 (l.getD i k0).2.2)
theorem xz.later{w w':World}{a:Option Addr}{l:List Tk}(h:xz w a l)(hb:Below w.heap.size w w'):xz w' a l:=by
 intro h0;obtain⟨g,o,e,hlt,hc⟩:=h h0;refine⟨g,o,e,a0f hlt hb.size,fun i hi=>⟨?_,?_,?_⟩⟩
 · exact(hb.cell (p:=⟨g,o+i*3,none⟩) hlt).trans (hc i hi).1
 · exact(hb.cell (p:=⟨g,o+i*3+1,none⟩) hlt).trans (hc i hi).2.1
 · exact(hb.cell (p:=⟨g,o+i*3+2,none⟩) hlt).trans (hc i hi).2.2
def dM:List Tk->List Value
 | []=>[]
 | p :: l=>.int .i64 p.1 :: .int .i64 p.2.1 :: .int .i64 p.2.2 :: dM l
theorem se(l m:List Tk):dM (l++m)=dM l++dM m:=by
 induction l with
 | nil=>rfl
 | cons p l ih=>simp[dM,ih]
theorem qL(l:List Tk)(i:Nat)(h:i<l.length):(dM l)[i*3]?=some (.int .i64 (l.getD i k0).1)/\(dM l)[i*3+1]?=some (.int .i64 (l.getD i k0).2.1)/\(dM l)[i*3+2]?=some (.int .i64 (l.getD i k0).2.2):=by
 induction l generalizing i with
 | nil=>simp at h
 | cons p l ih=>
  cases i with
  | zero=>simp[dM]
  | succ i=>
   have:=ih i (by simpa using h);rw[show(i+1)*3=i*3+1+1+1 by omega];simpa[dM]using this
theorem yd(l:List Tk)(j:Nat)(x:Tk):(((dM l).set (j*3) (.int .i64 x.1)).set (j*3+1) (.int .i64 x.2.1)).set (j*3+2) (.int .i64 x.2.2)=dM (l.set j x):=by
 induction l generalizing j with
 | nil=>simp[dM]
 | cons p l ih=>
  cases j with
  | zero=>simp[dM]
  | succ j=>
   rw[show(j+1)*3=j*3+1+1+1 by omega];simp only[dM,List.set_cons_succ];rw[ih j]
def dJ(w:World)(base:Nat)(v:Value)(l:List Tk):Prop:=w.ownsRow base 215 3 v l.length (dM l)
theorem dJ.form{w:World}{base:Nat}{v:Value}{l:List Tk}(h:dJ w base v l):∃a cap,v = .slice a l.length cap:=by
 rcases h.2 with⟨e,h0⟩|⟨g,cap,_,e,_⟩
 · exact⟨none,0,by rw[e,h0]⟩
 · exact⟨_,cap,e⟩
theorem dJ.formN{w:World}{base n:Nat}{v:Value}{l:List Tk}(hn:l.length=n)(h:dJ w base v l):∃a cap,v = .slice a n cap:=by
 subst hn;exact h.form
theorem dJ.row{w:World}{base:Nat}{a:Option Addr}{cap:Nat}{l:List Tk}(h:dJ w base (.slice a l.length cap) l):xz w a l:=by
 intro h0;rcases h.2 with⟨_,h1⟩|⟨g,cap',cur,e,hb,hg,hr⟩
 · omega
 · simp only[a0O]at e;obtain⟨rfl,_,rfl⟩:=e;refine⟨g,0,rfl,(Array.getElem?_eq_some_iff.1 hg).1,fun i hi=>?_⟩;have hp:=qL l i hi;have c1:=a02 h (i*3) (by omega);have c2:=a02 h (i*3+1) (by omega);have c3:=a02 h (i*3+2) (by omega);rw[a0M];exact⟨c1.trans hp.1,c2.trans hp.2.1,c3.trans hp.2.2⟩
theorem dJ.rowN{w:World}{base n:Nat}{a:Option Addr}{cap:Nat}{l:List Tk}(hn:l.length=n)(h:dJ w base (.slice a n cap) l):xz w a l:=by
 subst hn;exact h.row
theorem dJ.later{w w':World}{base B:Nat}{v:Value}{l:List Tk}(h:dJ w base v l)(hb:Below B w w')(hB:w.heap.size<=B):dJ w' base v l:=
 a1P h (row:=none) ⟨hb.os,hb.tape,hb.output,hb.size,fun k hk _=>hb.block k (by omega)⟩ (by
  cases hv:v.ownBlock with
  | none=>exact .inl rfl
  | some k=>exact .inr (by simp))
theorem dJ.mono{w:World}{base base':Nat}{v:Value}{l:List Tk}(h:dJ w base v l)(hb:base'<=base):dJ w base' v l:=by
 refine⟨h.1,?_⟩;rcases h.2 with hn|⟨g,cap,cur,e,hbg,rest⟩
 · exact .inl hn
 · exact .inr ⟨g,cap,cur,e,a0I hb hbg,rest⟩
theorem dJ.own{w:World}{base n:Nat}{v:Value}{l:List Tk}(hn:l.length=n)(h:dJ w base v l):w.ownsRow base 215 3 v n (dM l):=by
 subst hn;exact h
theorem dJ.somes{w:World}{base cap n:Nat}{a:Option Addr}{l:List Tk}(h:dJ w base (.slice a n cap) l)(hl:0<l.length):∃g,a=some ⟨g,0,none⟩:=by
 rcases h.2 with⟨_,e⟩|⟨g,cap',cur,e,_⟩
 · omega
 · simp only[a0O]at e;exact⟨g,e.1⟩
theorem dJ.below{w:World}{base cap n g:Nat}{l:List Tk}(h:dJ w base (.slice (some ⟨g,0,none⟩) n cap) l):base<=g/\g<w.heap.size:=a0G h g rfl
theorem dJ.at{w:World}{base g cap n:Nat}{l:List Tk}(hn:l.length=n)(h:dJ w base (.slice (some ⟨g,0,none⟩) n cap) l)(j:Nat)(hj:j<n) :
  w.cell? ⟨g,j*3,none⟩=some (.int .i64 (l.getD j k0).1)/\w.cell? ⟨g,j*3+1,none⟩=some (.int .i64 (l.getD j k0).2.1)/\w.cell? ⟨g,j*3+2,none⟩=some (.int .i64 (l.getD j k0).2.2)/\w.frozen? ⟨g,j*3,none⟩=false/\w.frozen? ⟨g,j*3+1,none⟩=false/\w.frozen? ⟨g,j*3+2,none⟩=false:=by
 subst hn;have hp:=qL l j hj;exact⟨(a02 h (j*3) (by omega)).trans hp.1,(a02 h (j*3+1) (by omega)).trans hp.2.1,(a02 h (j*3+2) (by omega)).trans hp.2.2,a2w h _,a2w h _,a2w h _⟩
theorem dJ.put{w:World}{base g cap n:Nat}{l:List Tk}(hn:l.length=n)(h:dJ w base (.slice (some ⟨g,0,none⟩) n cap) l)(j:Nat)(x:Tk) :
  dJ (((w.setCell ⟨g,j*3,none⟩ (.int .i64 x.1)).setCell ⟨g,j*3+1,none⟩ (.int .i64 x.2.1)).setCell ⟨g,j*3+2,none⟩ (.int .i64 x.2.2)) base (.slice (some ⟨g,0,none⟩) n cap) (l.set j x):=by
 subst hn;have h1:=(a1O h (j*3) (.int .i64 x.1)).1;have h2:=(a1O h1 (j*3+1) (.int .i64 x.2.1)).1;have h3:=(a1O h2 (j*3+2) (.int .i64 x.2.2)).1;rw[yd]at h3;show World.ownsRow _ _ _ _ _ (l.set j x).length _;rw[a18];exact h3
theorem dJ.touch{w w':World}{a:Option Addr}{base:Nat}{v:Value}{l:List Tk}(h:dJ w base v l)(ht:Touch a w w')(hne:∀g,a=some ⟨g,0,none⟩->g<base):dJ w' base v l:=by
 refine⟨h.1,?_⟩;rcases h.2 with hn|⟨g,cap,cur,rfl,hbg,hgg,rest⟩
 · exact .inl hn
 · refine .inr ⟨g,cap,cur,rfl,hbg,?_,rest⟩;rw[ht.2 g (fun g' e=>by have:=hne g' e;omega)];exact hgg
theorem Tryz.infoTok:(Tryz.prog.info? 215).map (fun i=>(i.zero,i.size,i.bytes))=some (some (.agg #[.int .i64 0,.int .i64 0,.int .i64 0]),3,24):=by kernel_rfl
theorem lL{x:World}{base n:Nat}{v:Value}{l:List Tk}{a b c:Int}(hn:l.length=n)(h:x.ownsRow base 215 3 v (n+1) (dM l++[.int .i64 a,.int .i64 b,.int .i64 c])):dJ x base v (l++[(a,b,c)]):=by
 subst hn;show World.ownsRow _ _ _ _ _ (l++[(a,b,c)]).length _;rw[se];simpa[dM]using h
theorem dJ.nil(w:World)(base:Nat):dJ w base (.slice none 0 0) []:=a0Y _ _ _ _
theorem dJ.lit(w:World)(base:Nat)(hb:base<=w.heap.size):dJ (w.alloc (.cells #[] 215)) base (.slice (some ⟨w.heap.size,0,none⟩) 0 0) []:=a06 w #[] 0 hb (by unfold maxLen;omega) rfl
theorem ui(w:World)(x y z:Value)(t:TypeId)(g:Nat)(hg:w.heap.size=g):∀(j:Nat) (u:Value),[x,y,z][j]?=some u->(w.alloc (.cells #[x,y,z] t)).cell? ((⟨g,0,none⟩:Addr).add j)=some u:=by
 subst hg;intro j u hj
 match j,hj with
 | 0,hj=>simp at hj;subst hj;simp[Addr.add]
 | 1,hj=>simp at hj;subst hj;simp[Addr.add]
 | 2,hj=>simp at hj;subst hj;simp[Addr.add]
theorem uj(x y z:Int):∀u∈[Value.int .i64 x,Value.int .i64 y,Value.int .i64 z],u.oneCell'=true:=by
 intro u hu;simp at hu;rcases hu with rfl|rfl|rfl<;>rfl
theorem y7(l:List Tk)(k:Nat)(h:k<l.length):l.take (k+1)=l.take k++[l.getD k k0]:=by
 rw[a1a h]
 congr 2
 simp[List.getD,h]
def rep(s:List UInt8)(back:Nat):Nat->List UInt8
 | 0=>s
 | n+1=>rep s back n++[(rep s back n).getD ((rep s back n).length-back) 0]
theorem qg(s:List UInt8)(back n:Nat):(rep s back n).length=s.length+n:=by
 induction n with
 | zero=>rfl
 | succ n ih=>simp only[rep,a0l,a1b,ih];omega
def pa(x:Int):UInt8:=UInt8.ofNat x.toNat
theorem sx{x:Int}(h0:0<=x)(h1:x<=255):((pa x).toNat:Int)=x:=by
 unfold pa;rw[UInt8.toNat_ofNat'];omega
def isB(t:Tk):Bool:=decide (t.2.1=0)&&(inB t.1 0 255&&decide (t.2.2=0))
def isK(t:Tk):Bool:=decide (t.1=0)&&inB t.2.1 3 60&&inB t.2.2 1 250
def Ai(s:List UInt8)(t:Tk):Option (List UInt8):=
 if isB t then some (s++[pa t.1])else if isK t&&decide (t.2.2<=(s.length:Int))then some (rep s t.2.2.toNat t.2.1.toNat)else none
def eV(s:List UInt8)(t:Tk):Option (List UInt8):=(Ai s t).bind fun x=>if x.length<=300 then some x else none
theorem nc{s x:List UInt8}{t:Tk}(h:eV s t=some x):x.length<=300:=by
 unfold eV at h;cases ha:Ai s t with
 | none=>rw[ha]at h;cases h
 | some y=>
  rw[ha]at h;simp only[a0g]at h
  split at h
  · simp only[a0n]at h;subst h;assumption
  · cases h
theorem zB{t:Tk}(h:isB t=true):isK t=false:=by
 simp only[isB,a0w,a0F]at h;have:inB t.2.1 3 60=false:=fi.2 (by omega);simp[isK,this]
def pT(t:Tk):Nat:=if isB t then 1 else t.2.1.toNat
def okT(t:Tk):Bool:=isB t || isK t
theorem nd{s:List UInt8}{t:Tk}(ho:okT t=true)(hb:isK t=true->t.2.2<=(s.length:Int))(hl:s.length+pT t<=300):eV s t=some (if isB t then s++[pa t.1]else rep s t.2.2.toNat t.2.1.toNat):=by
 unfold eV Ai;unfold pT at hl;cases hB:isB t
 ·
  have hK:isK t=true:=by simpa[okT,hB]using ho
  rw[hB]at hl;simp only[a1n,a1o]at hl ⊢;rw[hK,a0s (hb hK)];simp only[a2L,a0Z,a0g];rw[a0d (by rw[qg];exact hl)]
 · rw[hB]at hl;simp only[a0Z,a0g]at hl ⊢;rw[a0d (by simp;omega)]
theorem Cx{s:List UInt8}{t:Tk}(ho:okT t=false):eV s t=none:=by
 have hB:isB t=false:=by cases h:isB t<;>simp[okT,h]at ho ⊢
 have hK:isK t=false:=by simpa[okT,hB]using ho
 unfold eV Ai;rw[hB,hK];rfl
theorem uP{s:List UInt8}{t:Tk}(hK:isK t=true)(hb:(s.length:Int)<t.2.2):eV s t=none:=by
 have hB:isB t=false:=by
  cases h:isB t
  · rfl
  · rw[zB h]at hK;cases hK
 unfold eV Ai;rw[hB,hK,a0r (by omega)];rfl
theorem lw{s:List UInt8}{t:Tk}(hl:300<s.length+pT t):eV s t=none:=by
 unfold eV Ai;unfold pT at hl;cases hB:isB t
 ·
  rw[hB]at hl;simp only[a1n,a1o]at hl ⊢
  split
  · simp only[a0g];rw[a0e (by rw[qg];omega)]
  · rfl
 · rw[hB]at hl;simp only[a0Z,a0g]at hl ⊢;rw[a0e (by simp;omega)]
def agF(L:List UInt8)(p b:Nat):Nat->Nat->Nat
 | 0,n=>n
 | f+1,n=>if p+n<L.length/\L.getD (p+n) 0=L.getD (p+n-b) 0 then agF L p b f (n+1)else n
def agN(L:List UInt8)(p b:Nat):Nat:=agF L p b 60 0
theorem uQ{L:List UInt8}{p b k:Nat}(hk:k<60)(h:p+k<L.length)(he:L.getD (p+k) 0=L.getD (p+k-b) 0):agF L p b (60-k) k=agF L p b (60-(k+1)) (k+1):=by
 obtain⟨f,hf⟩:∃f,60-k=f+1:=⟨60-k-1,by omega⟩;rw[hf,show 60-(k+1)=f by omega];simp only[agF];rw[a0d ⟨h,he⟩]
theorem i6{L:List UInt8}{p b k:Nat}(h:k=60∨¬ (p+k<L.length)∨L.getD (p+k) 0≠L.getD (p+k-b) 0)(hk:k<=60):agF L p b (60-k) k=k:=by
 by_cases e:k=60
 · subst e;rfl
 ·
  obtain⟨f,hf⟩:∃f,60-k=f+1:=⟨60-k-1,by omega⟩;rw[hf];simp only[agF];rw[a0e];rintro⟨h1,h2⟩;rcases h with h|h|h
  · exact e h
  · exact h h1
  · exact h h2
theorem Cy(L:List UInt8)(p b f n:Nat):n<=agF L p b f n/\agF L p b f n<=n+f/\(p+n<=L.length->p+agF L p b f n<=L.length)/\(∀i,n<=i->i<agF L p b f n->L.getD (p+i) 0=L.getD (p+i-b) 0):=by
 induction f generalizing n with
 | zero=>exact⟨a0a _,a0a _,fun h=>h,fun i h1 h2=>by simp only[agF]at h2;omega⟩
 | succ f ih=>
  simp only[agF]
  split
  ·
   rename_i h;obtain⟨h1,h2,h3,h4⟩:=ih (n+1);refine⟨by omega,by omega,fun _=>h3 (by omega),fun i h5 h6=>?_⟩;by_cases e:i=n
   · subst e;exact h.2
   · exact h4 i (by omega) h6
  · exact⟨a0a _,by omega,fun h=>h,fun i h1 h2=>by omega⟩
theorem xB(L:List UInt8)(p b:Nat):agN L p b<=60:=by have:=(Cy L p b 60 0).2.1;unfold agN;omega
theorem GK{L:List UInt8}{p b:Nat}(h:p<=L.length):p+agN L p b<=L.length:=(Cy L p b 60 0).2.2.1 (by omega)
def bh(L:List UInt8)(p:Nat):Nat->Nat×Nat
 | 0=>(0,0)
 | k+1=>if (bh L p k).1<agN L p (k+1)then(agN L p (k+1),k+1)else bh L p k
theorem kp(L:List UInt8)(p k:Nat):(bh L p k).1<=60/\(bh L p k).2<=k/\((bh L p k).1≠0->1<=(bh L p k).2/\(bh L p k).1=agN L p (bh L p k).2)/\(∀b,1<=b->b<=k->agN L p b<=(bh L p k).1/\(agN L p b=(bh L p k).1->(bh L p k).1≠0->(bh L p k).2<=b)):=by
 induction k with
 | zero=>exact⟨by simp[bh],by simp[bh],fun h=>by simp[bh]at h,fun b h1 h2=>by omega⟩
 | succ k ih=>
  obtain⟨h1,h2,h3,h4⟩:=ih;simp only[bh]
  split
  ·
   rename_i h;refine⟨xB L p (k+1),a0a _,fun _=>⟨by simp,rfl⟩,fun b hb1 hb2=>?_⟩;by_cases e:b=k+1
   · subst e;exact⟨a0a _,fun _ _=>a0a _⟩
   · have:=(h4 b hb1 (by omega)).1;simp only;exact⟨by omega,fun he=>by omega⟩
  ·
   rename_i h;refine⟨h1,by omega,h3,fun b hb1 hb2=>?_⟩;by_cases e:b=k+1
   · subst e;exact⟨by omega,fun _ hne=>by omega⟩
   · exact h4 b hb1 (by omega)
def er(L:List UInt8)(p:Nat):Tk:=
 if (bh L p (min p 250)).1<3 then(((L.getD p 0).toNat:Int),0,0)else(0,((bh L p (min p 250)).1:Int),((bh L p (min p 250)).2:Int))
def gz(L:List UInt8)(p:Nat):Nat:=if (bh L p (min p 250)).1<3 then 1 else(bh L p (min p 250)).1
theorem ij(L:List UInt8)(p:Nat):1<=gz L p/\gz L p<=60:=by
 unfold gz;have:=(kp L p (min p 250)).1
 split<;>omega
theorem uH{L:List UInt8}{p:Nat}(h:p<L.length):p+gz L p<=L.length:=by
 unfold gz;obtain⟨h1,h2,h3,h4⟩:=kp L p (min p 250)
 split
 · omega
 · rename_i hn;obtain⟨h5,h6⟩:=h3 (by omega);rw[h6];exact GK (by omega)
def fD(L:List UInt8):Nat->Nat->List Tk
 | 0,_=>[]
 | f+1,p=>if p<L.length then er L p :: fD L f (p+gz L p)else []
theorem zd{L:List UInt8}{f p:Nat}(h:L.length-p<=f):fD L f p=fD L (L.length-p) p:=by
 induction f generalizing p with
 | zero=>rw[show L.length-p=0 by omega]
 | succ f ih=>
  by_cases hp:p<L.length
  ·
   obtain⟨g,hg⟩:∃g,L.length-p=g+1:=⟨L.length-p-1,by omega⟩;have hs:=ij L p;rw[hg];simp only[fD];rw[a0d hp,a0d hp,ih (by omega)]
   congr 1
   -- both are the tokens from there on
   have:∀g',L.length-(p+gz L p)<=g'->g'<=f->fD L g' (p+gz L p)=fD L (L.length-(p+gz L p)) (p+gz L p):=by
    intro g' h1 h2;clear ih;have key:∀n q,L.length-q<=n->fD L n q=fD L (L.length-q) q:=by
     intro n;induction n with
     | zero=>intro q hq;rw[show L.length-q=0 by omega]
     | succ n ihn=>
      intro q hq;by_cases hq2:q<L.length
      ·
       obtain⟨m,hm⟩:∃m,L.length-q=m+1:=⟨L.length-q-1,by omega⟩;have hs2:=ij L q;rw[hm];simp only[fD];rw[a0d hq2,a0d hq2,ihn _ (by omega)]
       congr 1
       by_cases hmn:m=n
       · subst hmn;rw[ihn _ (by omega)]
       ·
        have hmn2:m<n:=by omega
        clear hq;have:∀n m r,m<=n->L.length-r<=m->fD L n r=fD L m r:=by
         intro n;induction n with
         | zero=>intro m r h1 _;rw[show m=0 by omega]
         | succ n ih3=>
          intro m r h1 h2;by_cases hr:r<L.length
          · obtain⟨m',rfl⟩:∃m',m=m'+1:=⟨m-1,by omega⟩;have hs3:=ij L r;simp only[fD];rw[a0d hr,a0d hr,ih3 m' _ (by omega) (by omega)]
          ·
           cases m with
           | zero=>simp only[fD];rw[a0e hr]
           | succ m=>simp only[fD];rw[a0e hr,a0e hr]
        exact(this m _ _ (by omega) (a0a _)).symm
      · rw[show L.length-q=0 by omega];simp only[fD];rw[a0e hq2]
    exact key g' _ h1
   exact(this g (by omega) (by omega)).symm
  · rw[show L.length-p=0 by omega];simp only[fD];rw[a0e hp]
def bE(L:List UInt8)(p:Nat):List Tk:=fD L (L.length-p) p
theorem iq{L:List UInt8}{p:Nat}(h:p<L.length):bE L p=er L p :: bE L (p+gz L p):=by
 unfold bE;obtain⟨g,hg⟩:∃g,L.length-p=g+1:=⟨L.length-p-1,by omega⟩;have hs:=ij L p;rw[hg];simp only[fD];rw[a0d h,zd (by omega)]
theorem gX{L:List UInt8}{p:Nat}(h:¬ p<L.length):bE L p=[]:=by
 unfold bE;rw[show L.length-p=0 by omega];rfl
theorem tD(L:List UInt8):∀n p,L.length-p<=n->(bE L p).length<=L.length-p:=by
 intro n;induction n with
 | zero=>intro p h;rw[gX (by omega)];simp
 | succ n ih=>
  intro p h;by_cases hp:p<L.length
  · have hs:=ij L p;rw[iq hp];have:=ih (p+gz L p) (by omega);simp only[a0E];omega
  · rw[gX hp];simp
end Go.Proofs.YtbacpebljannfaaGreatDoor
