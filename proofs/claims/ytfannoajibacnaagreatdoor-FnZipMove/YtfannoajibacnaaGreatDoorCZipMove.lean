/- Texts. -/
import Derived.Test.YtfannoajibacnaaGreatDoorM47
import Derived.Deep.RegionHeld3
import Derived.Deep.DrawnRows
import Derived.Lib.AppendZerosOnto
set_option linter.all false
set_option maxRecDepth 100000
set_option maxHeartbeats 6400000
namespace Go.Proofs.YtfannoajibacnaaGreatDoor
open Go.Proofs.Tryz
open Go.RowKit Corb
variable {b c g k n:Nat}{x y:ByteArray}
def p6(l:List En)(k:Nat):l.flatMap bu=(l.take k).flatMap bu++(l.drop k).flatMap bu:=by rw[←a1B,a1z]
def take_len{l:List En}(b:l.length=n)(a:k<=n):((l.take k).flatMap bu).length=k*8:=by rw[dm bf,a0u];omega
def nK{l:List En}(a:l.length=n):((l.drop k).flatMap bu).length=(n-k)*8:=by rw[dm bf,a04,a]
def ET{W:World}{l:List En}(d:l.length=n)(h:cO W b (.slice g n c) l)(k:Nat):∀j u,((l.take k).flatMap bu)[j]?=some u->W.cell? ((⟨g,0,none⟩:Addr).add j)=some u:=fun j u a=>by
 refine a1F (bj.own d h) rfl j u ?_;rw[p6 l k,List.getElem?_append_left (List.getElem?_eq_some_iff.1 a).1];exact a
def Px{W:World}{l:List En}(a:l.length=n)(h:cO W b (.slice g n c) l)(k:Nat)(d:k<=n):∀j u,((l.drop k).flatMap bu)[j]?=some u->W.cell? ((⟨g,k*8,none⟩:Addr).add j)=some u:=fun j u e=>by
 have:=a1F (bj.own a h) rfl (k*8+j) u (by
  rw[p6 l k,List.getElem?_append_right (by rw[take_len a d];omega),take_len a d,a1t];exact e)
 rw[Addr.add_lit]at this ⊢;rw[a0G]at this;exact this
def xF{l:List En}(d:l.length=n)(m:n<=c)(k:Nat)(f:k<n):∃A:Addr,(if c=k+1 then some (⟨g,0,none⟩:Addr)else some ⟨g,(k+1)*8,none⟩)=some A/\Hid (∀W,cO W b (.slice g n c) l->∀j u,((l.drop (k+1)).flatMap bu)[j]?=some u->W.cell? (A.add j)=some u):=by
 by_cases h:c=k+1
 . refine⟨⟨g,0,none⟩,a0d h,fun W _ j u i=>?_⟩;have a:=(List.getElem?_eq_some_iff.1 i).1;rw[nK d]at a;omega
 . exact⟨⟨g,(k+1)*8,none⟩,a0e h,fun W e=>Px d e (k+1) f⟩
def oS{l:List En}(b:l.length=n)(a:k<n):(l.eraseIdx k).length=k+(n-(k+1)):=by rw[List.length_eraseIdx,a0d (by omega)];omega
def yE(g c n k:Nat)(l:List En)(ob:Nat)(w:World)(o:l.length=n)(h:cO w ob (.slice g n c) l)(V:n<=6)(G:k<n) :
  Calls prog 42 #[.slice g n c,k] w fun f w'=>(∃v,f = .returned v/\cO w' w.heap.size v (l.eraseIdx k))/\Below w.heap.size w w':=by
 have L:=cE
 obtain⟨i0,K,q,r,s⟩:=a0p Tryz.infoEnt;obtain⟨_,_,e,O,_⟩:=h.formN o;cases e
 obtain⟨A,X,B⟩:=xF (b:=ob) (g:=g) o O k G;have z:=af (fun W N=>ET (W:=W) (b:=ob) (g:=g) (c:=c) o N k);have u:=af (take_len o (a0s G));have y:=af (nK (k:=k+1) o);have i:Hid (∀x,x<=40->x<=maxLen/\x*80<=140737488355328):=fun x Y=>by unfold maxLen;omega
 have J:=af (fun W (hb:Below w.heap.size w W)=>h.later hb (a0a _));have M:Hid (l.eraseIdx k=l.take k++l.drop (k+1)):=a2T _ _;have t:=af (oS o G);have S:(k:Int)<(n:Int):=by omega
 have T:(k:Int)<=(c:Int):=by omega
 have Q:0<=(k:Int)+1:=by omega
 have R:(k:Int)+1<=(n:Int):=by omega
 have U:(n:Int)<=6:=by omega
 have P:(n:Int)<=(c:Int):=by omega
 have Z:IntKind.i64.wrap ((k:Int)+1)=(k:Int)+1:=by simp only[IntKind.wrap,IntKind.bits,IntKind.signed];simp;omega
 have d:Hid (Below w.heap.size w (w.drew.alloc (.cells #[] 26))):=(a0c _ _).drew.alloc (a0a _) _;clear h o;go_enter func42,ntmps42;go_wp2_with fail
 go_region_law (first
  | (refine aL rfl (.tmp 5) (.tmp 8) 31 rfl w.heap.size 26 i0 (.agg ()) 8 80 a1h K q r s rfl (by decide) (.slice w.heap.size 0 0) 0 [] (by simp[Act.eval]) (a0S w.drew #[] 0 (a0a _) (by unfold maxLen;omega) rfl) ⟨g,0,none⟩ k c ((l.take k).flatMap bu) (by simp[Act.eval]) u (z _ (ae J _ (ae d))) (kz _) (i _ (by omega)).1 (i _ (by omega)).2 d.size ?_;intro v1 x1 a D H;clear H;have m:=d.grown D d.size (fun j F=>by cases F;exact a0a _))
  | (refine aL rfl (.tmp 9) (.tmp 13) 31 rfl w.heap.size 26 i0 (.agg ()) 8 80 a1h K q r s rfl (by decide) v1 (0+k) ([]++(l.take k).flatMap bu) (by simp[Act.eval]) a A (n-(k+1)) (c-(k+1)) ((l.drop (k+1)).flatMap bu) (by simp[Act.eval]) y (B _ (ae J _ m)) (kz _) (i _ (by omega)).1 (i _ (by omega)).2 m.size ?_;intro v2 x2 p E I;clear I;have C:=m.grown E m.size (fun j F=>(a0z a j F).1)))
 go_wp2;go_ret;refine⟨⟨v2,rfl,?_⟩,C⟩;show World.ownsRow _ _ _ _ _ _ _;rw[ae t,ae M,a1B];simpa using p
end Go.Proofs.YtfannoajibacnaaGreatDoor
set_option maxHeartbeats 3200000
namespace Go.Proofs.YtfannoajibacnaaGreatDoor
open Go.Proofs.Tryz
open Go.RowKit Corb
variable {b p:Nat}{s:ByteArray}{v0 v1 v2:Value}{w w':World}
attribute [local go_sem ↓] Go.wp_at_zero Go.wp_at_succ
end Go.Proofs.YtfannoajibacnaaGreatDoor
namespace Go.Proofs.YtfannoajibacnaaGreatDoor
open Go.Proofs.Tryz
open Go.RowKit
variable {B G L b g i j k n o:Nat}{a:Option Addr}{f:Nat×Nat}{l:List Int}{m:Nat->Nat}{t t':TypeId}{v vc vl vs y:Value}{w w' w1 x y':World}{xs:List Value}
open Corb
section
variable {α : Type} {f : α → List Value} {c : Nat}
def N8(a:∀x,(f x).length=c)(l:List α)(j:Nat)(x:α)(e:j<l.length):BQ (l.flatMap f) (j*c) (f x)=(l.set j x).flatMap f:=by
 have b:j*c+c<=l.length*c:=by
  have:(j+1)*c<=l.length*c:=a2f c e;rw[a1y,a2P]at this;exact this
 rw[BR _ _ _ (by rw[dm a,a];exact b)];have g:l=l.take j++l[j] :: l.drop (j+1):=by rw[List.getElem_cons_drop,a1z]
 have h:l.set j x=l.take j++x :: l.drop (j+1):=by rw[List.set_eq_take_append_cons_drop,a0d e]
 have d:(List.flatMap f (l.take j)).length=j*c:=by rw[dm a,a0u,a1r (by omega)]
 rw[h]
 conv=>lhs;rw[g]
 simp only[a1B,a0W];rw[a1n (by omega),a0t (by omega)];rw[←a0I,a2Q,a2R (by simp only[a0i,d,a];omega)];simp only[a0i,d,a,a3i,a1L,a1a,a0I]
variable {T : TypeId}
def bj.put(a:∀x,(f x).length=c){w:World}{base g cap n:Nat}{l:List α}(d:l.length=n)(h:bj T c f w base (.slice g n cap) l)(j:Nat)(b:j<n)(x:α) :
  bj T c f (setMany w g (j*c) (f x)) base (.slice g n cap) (l.set j x):=by
 subst d;have:=om (f x) (j*c) h;rw[N8 a l j x b]at this;show World.ownsRow _ _ _ _ _ (l.set j x).length _;rw[a00];exact this
end
end Go.Proofs.YtfannoajibacnaaGreatDoor
set_option maxHeartbeats 3200000
namespace Go.Proofs.YtfannoajibacnaaGreatDoor
open Go.Proofs.Tryz
open Go.RowKit
variable {T T':List UInt8}{V g n p q sz:Nat}{w:World}
def oR{base cap:Nat}{l:List En}(b:l.length=n)(h:cO w base (.slice g n cap) l)(i:Nat)(a:i<n) :
  w.frozen? ⟨g,i*8,none⟩=false/\w.frozen? ⟨g,i*8+1,none⟩=false/\w.frozen? ⟨g,i*8+2,none⟩=false/\w.frozen? ⟨g,i*8+3,none⟩=false/\w.frozen? ⟨g,i*8+4,none⟩=false/\w.frozen? ⟨g,i*8+5,none⟩=false/\w.frozen? ⟨g,i*8+6,none⟩=false/\w.frozen? ⟨g,i*8+7,none⟩=false:=
 ⟨(bj.at bf default b h i 0 a (by omega)).2,(bj.at bf default b h i 1 a (by omega)).2,(bj.at bf default b h i 2 a (by omega)).2,(bj.at bf default b h i 3 a (by omega)).2,(bj.at bf default b h i 4 a (by omega)).2,(bj.at bf default b h i 5 a (by omega)).2,(bj.at bf default b h i 6 a (by omega)).2,(bj.at bf default b h i 7 a (by omega)).2⟩
open Corb
end Go.Proofs.YtfannoajibacnaaGreatDoor
set_option maxHeartbeats 12800000
namespace Go.Proofs.YtfannoajibacnaaGreatDoor
open Go.Proofs.Tryz
open Corb
variable {T c s x y:ByteArray}{b i k m:Nat}{u:List UInt8}{w w':World}
open Go.RowKit
def sf: ((cV s).getD []).length<=6:=by
 cases h:cV s with
 | none=>simp
 | some l=>
  obtain⟨_,q,_,rfl,a,_⟩:=pt h;exact(ct a).2
def Gr(a b:List UInt8):cb a b=cb b a:=by
 unfold cb;rw[Bool.or_comm (gr b a)]
 congr 1
 rw[a2h];simp only[a2A];exact⟨Eq.symm,Eq.symm⟩
def oW{e f:En}(h:goes e f):goes f e:=by
 unfold goes at *;rw[Gr];exact h
def tw{l:List En}(a:k<l.length)(e:En):l.set k e=l.take k++e :: l.drop (k+1):=by rw[List.set_eq_take_append_cons_drop,a0d a]
def vy{l:List En}{e:En}(h:bi l=true)(d:k<l.length)(i:fi e=true)(c:fI (l.eraseIdx k) e.n=false):bi (l.set k e)=true:=by
 have b:=(qF _).1 (pw h k);have g:=((qF l).1 h).2.2;rw[a2T]at b c;have c:=(Gb _ _).1 c;refine(qF _).2 ⟨fun f a=>?_,?_,by rw[a00];exact g⟩
 .
  rw[tw d]at a;simp only[a03,a02]at a;rcases a with a|rfl|a
  . exact b.1 f (a03.2 (.inl a))
  . exact i
  . exact b.1 f (a03.2 (.inr a))
 . rw[tw d,List.pairwise_middle (fun h=>oW h),a3Z];exact⟨fun f a=>oW (c f a),b.2.1⟩
def qN{l:List En}(h:atN l x=(k:Int)):k<l.length/\(l.getD k default).n.data.toList=x.data.toList:=by
 unfold atN at h
 split at h
 .
  rename_i q hq;obtain rfl:q=k:=by omega
  rw[List.findIdx?_eq_some_iff_getElem]at hq;obtain⟨a,h2,_⟩:=hq;exact⟨a,by simpa[List.getD,a]using h2⟩
 . omega
def vE{l:List En}(h:bi l=true)(b:atN l x=(k:Int)):fI (l.eraseIdx k) x=false:=by
 obtain⟨a,d⟩:=qN b;have h2:=((qF l).1 h).2.1;have e:l=l.take k++l.getD k default :: l.drop (k+1):=by
  have:=tw a (l.getD k default);rw[←this];refine(List.ext_getElem? fun i=>?_);rw[List.getElem?_set]
  split
  . rename_i hi;subst hi;simp[List.getD,a]
  . rfl
 rw[e,List.pairwise_middle (fun h=>oW h),a3Z]at h2;rw[a2T];refine(Gb _ _).2 fun f c=>?_;have:=oW (h2.1 f c);unfold goes at this;rw[d]at this;exact this
def Ap{l:List En}(h:¬ atN l x<0):∃k:Nat,atN l x=(k:Int)/\(atN l x).toNat=k/\k<l.length:=by
 rcases su l x with a|⟨k,b,a⟩
 . omega
 . exact⟨k,a,by omega,b⟩
def mT(s:ByteArray)(b:Bool)(w:World) :
  Calls prog 26 #[s,.bool b] w fun e w'=>e = .returned (.string (if b then s else⟨#[]⟩))/\w'=w:=by
 cases b
 all_goals
  go_enter func26,ntmps26;go_wp2;go_ret;exact⟨rfl,rfl⟩
end Go.Proofs.YtfannoajibacnaaGreatDoor
set_option maxHeartbeats 6400000
namespace Go.Proofs.YtfannoajibacnaaGreatDoor
open Go.Proofs.Tryz
open Corb
variable {k:Nat}{x:ByteArray}
def at_eq{l:List En}(h:atN l x=(k:Int)):(l.getD k default).n=x:=ck (qN h).2
def Tl{l:List En}(h:bi l=true){j:Nat}(a:atN l x=(k:Int))(b:j<l.length):(l.getD j default).n=x<->j=k:=by
 constructor
 . intro e;have:=I0 h b;rw[e,a]at this;omega
 . intro e;subst e;exact at_eq a
def ri{l:List En}{j:Nat}(e:En)(a:k<l.length):(l.set k e).getD j default=if j=k then e else l.getD j default:=by
 simp only[List.getD,List.getElem?_set];by_cases h:k=j
 . subst h;simp[a]
 . rw[a0e h,a0e (fun e=>h e.symm)]
def Ff{l:List En}(a:k<l.length)(e:En):(l.set k e).set k (l.getD k default)=l:=by
 rw[List.set_set];refine(List.ext_getElem? fun j=>?_);rw[List.getElem?_set]
 split
 . rename_i hj;subst hj;simp[List.getD,a]
 . rfl
open Go.RowKit
end Go.Proofs.YtfannoajibacnaaGreatDoor
set_option maxHeartbeats 1600000
namespace Go.Proofs.YtfannoajibacnaaGreatDoor
open Go.Proofs.Tryz
open Go.RowKit
open Go.Lib hiding intOf
variable {R:List (Value×List Value)}{ob p:Nat}{w w':World}
def nQ:(prog.info? 26).map (fun i=>(i.zero,i.size,i.bytes))=some (some (.agg ()),8,80):=by kernel_rfl
def AY(n:Nat)(w:World)(q:n<=100000) :
  Calls prog 124 #[.slice none 0 0,n] w fun e w'=>∃v,e = .returned v/\(∃c,v = .slice none 0 c∨v = .slice w.heap.size 0 c)/\w'.ownsRow w.heap.size 26 8 v 0 []/\Below w.heap.size w w':=by
 obtain⟨i0,i,b,d,a⟩:=a0p nQ;have p:(n:Int)<=100000:=by omega
 by_cases k:n=0
 . subst k;clear b d a i;go_enter func124,ntmps124;go_wp2;go_ret;exact⟨_,rfl,⟨0,.inl rfl⟩,a1b _ _ _ _,a0c _ _⟩
 .
  have hold:(Builtin.firstCells i0.size 0 (.slice none 0 0)).run prog w.drew = .ok ([]:List Value).toArray w.drew:=a3P w.drew i0.size 0 0 0;have g:=af (fun ty=>Lib.run_append_grow_zeros w 31 3 ty 26 i0 (.agg ()) .i64 .i64 a1h a10 i b none 0 0 [] hold n (by omega) (by rw[d];decide) (by omega) (by omega) (by rw[a];omega) (a3d (by omega) (by rw[a];omega)));rw[a0G]at g;have h:n<=grownCap w n 0 26:=grownCap_ge w _ _ _;have f:grownCap w n 0 26<=maxLen:=a3O w n 0 _ (by unfold maxLen;omega);generalize grownCap w n 0 26=G at *;have j:Hid ((([]:List Value).toArray++Builtin.zeroCells ((Value.agg ()):Value).cells n++Builtin.zeroCells ((Value.agg ()):Value).cells (G-n)).size=G*8):=by
   show _=_;simp only[a2j,size_zeroCells];have e:((Value.agg ()):Value).cells.size=8:=rfl;rw[e];simp;omega
  generalize (([]:List Value).toArray++Builtin.zeroCells ((Value.agg ()):Value).cells n++Builtin.zeroCells ((Value.agg ()):Value).cells (G-n))=cur at *;have m:(1:Int)<=(n:Int):=by omega
  have o:¬ G=0:=by omega
  have l:=af f;clear hold b d a i f h k;go_enter func124,ntmps124;go_wp2_with (at_builtin;refine Lib.wpList_append_run _ rfl _ _ _ _ rfl _ _ rfl rfl _ _ (g _) ?_);go_ret;refine⟨_,rfl,⟨G,.inr rfl⟩,World.ownsRow_made w.drew cur G (a0a _) l j,((a0c _ _).drew).alloc (a0a _) _⟩
def iV(w:World)(p:Nat)(R:List (Value×List Value)):Prop:=∀j,j<R.length->w.cell? ⟨p,j,none⟩=some (R.getD j (.slice none 0 0,[])).1/\∃A n c,(R.getD j (.slice none 0 0,[])).1 = .slice (some A) n c/\(R.getD j (.slice none 0 0,[])).2.length=n*8/\(∀u∈(R.getD j (.slice none 0 0,[])).2,u.oneCell'=true)/\∀W,Below w.heap.size w W->∀k u,(R.getD j (.slice none 0 0,[])).2[k]?=some u->W.cell? (A.add k)=some u
def cR(x:Value×List Value):Nat:=x.2.length/8
def aM(R:List (Value×List Value)):Nat:=(R.map cR).sum
def eZ(R:List (Value×List Value)):List Value:=R.flatMap Prod.snd
def ox(R:List (Value×List Value))(k:Nat)(h:k<R.length):R.take (k+1)=R.take k++[R.getD k (.slice none 0 0,[])]:=by
 rw[a1e h]
 congr 2
 simp[List.getD,h]
def lv(R:List (Value×List Value))(k:Nat)(h:k<R.length):aM (R.take (k+1))=aM (R.take k)+cR (R.getD k (.slice none 0 0,[])):=by
 rw[ox R k h];simp[aM]
def rN(R:List (Value×List Value))(k:Nat)(h:k<R.length):eZ (R.take (k+1))=eZ (R.take k)++(R.getD k (.slice none 0 0,[])).2:=by
 rw[ox R k h];simp[eZ]
def nn(R:List (Value×List Value))(k:Nat):aM (R.take k)<=aM R:=by
 have e0:∀A B:List (Value×List Value),aM (A++B)=aM A+aM B:=fun A B=>by simp[aM]
 have e:=e0 (R.take k) (R.drop k);rw[a1z]at e;omega
def iV.later(h:iV w p R)(hb:Below w.heap.size w w'):iV w' p R:=by
 intro j g;obtain⟨a,A,n,c,h2,b,d,e⟩:=h j g;exact⟨(hb.cell (p:=⟨p,j,none⟩) (World.block_lt_of_cell? w ⟨p,j,none⟩ a)).trans a,A,n,c,h2,b,d,fun W f=>e W (hb.trans (f.mono hb.size))⟩
def iV.form(h:iV w p R)(j:Nat)(e:j<R.length):∃A c,(R.getD j (.slice none 0 0,[])).1 = .slice (some A) (cR (R.getD j (.slice none 0 0,[]))) c/\(R.getD j (.slice none 0 0,[])).2.length=cR (R.getD j (.slice none 0 0,[]))*8/\(∀u∈(R.getD j (.slice none 0 0,[])).2,u.oneCell'=true)/\∀k u,(R.getD j (.slice none 0 0,[])).2[k]?=some u->w.cell? (A.add k)=some u:=by
 obtain⟨_,A,n,c,h2,a,b,d⟩:=h j e;have f:cR (R.getD j (.slice none 0 0,[]))=n:=by unfold cR;rw[a];omega
 rw[f];exact⟨A,c,h2,a,b,d w (a0c _ _)⟩
def CQ(p m c:Nat)(R:List (Value×List Value))(w:World)(hm:R.length=m)(Z:1<=m)(J:m<=1000)(h:iV w p R)(hl:aM R<=100000) :
  Calls prog 79 #[.slice p m c] w fun e w'=>∃v,e = .returned v/\w'.ownsRow w.heap.size 26 8 v (aM R) (eZ R)/\Below w.heap.size w w':=by
 obtain⟨i0,hi,V,W,X⟩:=a0p nQ;have ad:(m:Int)<=1000:=by omega
 have t:=af (a0b hm (a0b Z J));have M:=af hl;have H:=af h;have P:=af (fun n hn=>AY n w hn);clear hm Z J hl h;go_enter func79,ntmps79;go_wp2_with fail
 go_loop [3,5,11] (fun s _ i=>∃k:Nat,k<=m/\i = .int .i64 k/\s = .int .i64 (aM (R.take k):Nat)) (fun _ _ i=>m-(intOf i).toNat)
 case atStart=>exact⟨0,a0g _,rfl,rfl⟩
 case round=>
  obtain⟨k,S,rfl,rfl⟩:=hrel;have HK:=af S;by_cases d:k<m
  .
   have F:=ae H k (by rw[t.1];exact d);obtain⟨A,c1,e,_⟩:=H.form k (by rw[t.1];exact d);have c0:=F.1;rw[e]at c0;have o:=af (lv R k (by rw[t.1];exact d));have D:=nn R (k+1);have aa:(aM (R.take k):Int)+(cR (R.getD k (.slice none 0 0,[])):Int)<=100000:=by have:=ae o;have:=ae M;omega
   clear F e D S;generalize cR (R.getD k (.slice none 0 0,[]))=q,aM (R.take k)=s at *;go_wp2
   go_round
   case rel=>exact⟨k+1,by have:=ae HK;omega,by go_num,by rw[ae o];go_num⟩
   case measure=>simp[intOf];omega
  .
   obtain rfl:k=m:=by omega
   have r:R.take k=R:=a0t (by rw[t.1];exact a0a _);rw[r];have ac:(aM R:Int)<=100000:=by have:=ae M;omega
   have Y:Hid (aM R<=100000):=by show _<=_;have:=ae M;omega
   clear r S d;generalize hN:aM R=N at *;have z:=af hN;clear hN;go_wp2_with fail;apply(P N (ae Y)).mono;rintro e x1⟨v,rfl,⟨cg,E⟩,ho,hb⟩;have C:∃a,v = .slice a 0 cg:=by
    rcases E with E|E
    . exact⟨_,E⟩
    . exact⟨_,E⟩
   obtain⟨va,rfl⟩:=C;clear E;go_wp2_with fail
   go_loopw [6,8,27] (fun s _ i wr=>∃j:Nat,j<=k/\i = .int .i64 j/\wr.ownsRow w.heap.size 26 8 s (aM (R.take j)) (eZ (R.take j))/\Below w.heap.size w wr) (fun _ _ i _=>k-(intOf i).toNat)
   case atStart=>exact⟨0,a0g _,rfl,ho,hb⟩
   case round=>
    obtain⟨j,hj,rfl,hq,f⟩:=hrel;clear ho hb;have HJ:=af hj;have I:=f.size;by_cases d:j<k
    .
     have B:=H.later f;have F:=B j (by rw[t.1];exact d);obtain⟨A,c1,e,L,u,y⟩:=B.form j (by rw[t.1];exact d);have c0:=F.1;rw[e]at c0;have o:=af (lv R j (by rw[t.1];exact d));have U:=af (rN R j (by rw[t.1];exact d));have D:=nn R (j+1);have G:Hid (aM (R.take j)+cR (R.getD j (.slice none 0 0,[]))<=maxLen/\(aM (R.take j)+cR (R.getD j (.slice none 0 0,[])))*80<=140737488355328):=by
      have:=ae o;have:=ae z;have:=ae Y;show _/\_;unfold maxLen;omega
     have O:=af (a0b L (a0b y u));clear F e D hj B y u L;generalize cR (R.getD j (.slice none 0 0,[]))=q,(R.getD j (.slice none 0 0,[])).2=xs at *;go_wp2_with (at_builtin;refine a0w _ rfl _ _ 31 rfl w.heap.size 26 i0 (Value.agg ()) 8 80 a1h hi V W X rfl (by decide) _ _ _ rfl hq A q c1 xs rfl O.1 O.2.1 O.2.2 G.1 G.2 I ?_;intro v' x2 x l K);have Q:Below w.heap.size w x2:=f.grown l I (fun b h=>(a0z hq b h).1);rw[←ae o,←ae U]at x;clear l hq f K;go_wp2;go_roundw
     case rel=>exact⟨j+1,by have:=ae HJ;omega,by go_num,x,Q⟩
     case measure=>simp[intOf];omega
    .
     obtain rfl:j=k:=by omega
     have r:R.take j=R:=a0t (by rw[t.1];exact a0a _);rw[r,ae z]at hq;have T:∃a c,u6 = .slice a N c:=by
      rcases hq.2 with⟨e,e0⟩|⟨g,cap,ab,e,_⟩
      . subst e0;exact⟨_,_,e⟩
      . exact⟨_,_,e⟩
     obtain⟨qa,qc,rfl⟩:=T;clear r;go_wp2;go_ret;exact⟨_,rfl,by rw[ae z];exact hq,f⟩
end Go.Proofs.YtfannoajibacnaaGreatDoor
set_option maxHeartbeats 12800000
namespace Go.Proofs.YtfannoajibacnaaGreatDoor
open Go.Proofs.Tryz
open Corb
variable {T c s x y:ByteArray}{b i k m:Nat}{u:List UInt8}{w w':World}
open Go.RowKit
def vX(l:List En)(x:ByteArray):Value:=if atN l x<0 then .tuple #[.string ⟨#[]⟩,.bool false]else .tuple #[.string (l.getD (atN l x).toNat default).t,.bool true]
def Ob{l:List En}(h:atN l x = -1):vX l x = .tuple #[.string ⟨#[]⟩,.bool false]:=by unfold vX;rw[h];rfl
def AW{l:List En}(h:atN l x=(k:Int)):vX l x = .tuple #[.string (l.getD k default).t,.bool true]:=by unfold vX;rw[h,a0e (by omega),a0n]
def jP(s x:ByteArray)(m:Int)(w:World)(Z:s.size<=1048576)(Y:w.cell? ⟨2,0,none⟩=some (.int .i64 m))(Q:j9 w)(W:dp w) :
  Ds 14 #[s,x] w (vX ((cV s).getD []) x):=by
 have C:=af (bS s m w Z Y Q W);have hz:=sf (s:=s);clear Z Y Q W;go_enter func14,ntmps14;go_wp2_with fail;refine C.mono ?_;rintro e x1⟨⟨v,rfl,f⟩,I⟩;have B:=af I;obtain⟨L,hL⟩:∃l,(cV s).getD []=l:=⟨_,rfl⟩;rw[hL]at f hz;have T:=af hL;obtain⟨n,hn⟩:∃n,L.length=n:=⟨_,rfl⟩;obtain⟨a,c,rfl,hc,_⟩:=f.formN hn;have ab:(n:Int)<=6:=by omega
 have U:=af (bv hn f);have M:=af (fun k (S:k<L.length)=>@uZ L x k S);have N:=af (@qM L x);rw[hn]at M N;have V:=af hn;clear I C f hL hc hz hn;go_wp2_with fail
 go_loopw [9,17] (fun _ i wr=>∃k:Nat,k<=n/\i = .int .i64 k/\(∀j,j<k->¬ (L.getD j default).n.toList=x.toList)/\Below w.heap.size w wr/\iA wr a L) (fun _ i _=>n-(intOf i).toNat)
 case atStart=>exact⟨0,a0g _,rfl,fun j X=>absurd X (by omega),B,U⟩
 case round=>
  obtain⟨k,S,rfl,A,u,q⟩:=hrel;have b:=af A;have r:=af u;clear A U B;by_cases K:k<n
  .
   have aa:(k:Int)<(n:Int):=(by omega);have z:=af q;obtain⟨g,o,rfl,Q,J⟩:=q (by have:=ae V;omega);obtain⟨c0,c1,c2,c3,c4,c5,c6,c7⟩:=J k (by have:=ae V;omega);have F:=af (ae M k K (ae b));have H:Hid (¬ (L.getD k default).n.toList=x.toList->∀j,j<k+1->¬ (L.getD j default).n.toList=x.toList):=by
    intro e j X;by_cases R:j=k
    . rw[R];exact e
    . exact b j (by omega)
   have HF:Hid (atN L x=(k:Int)->vX L x = .tuple #[.string (L.getD k default).t,.bool true]):=fun h=>AW h;have G:=af K;clear J S b q u M N;generalize L.getD k default=en at *;obtain⟨p,hp⟩:∃p,en.n=p:=⟨_,rfl⟩;have P:=(a0c wr.heap.size wr).alloc (a0a _) (.cells #[.string p,en.y,en.mo,en.d,en.h,en.mi,en.s,en.t] 26);have D:=af (aj r P);have O:=af (z.later P);rw[hp]at c0 F H;clear P r z hp;by_cases e:p.toList=x.toList
   .
    have E:=af (ae HF (ae F e));have eB:(p.toList == x.toList)=true:=by simp only[a2A];exact e
    go_wp2
    go_ret2
    exact⟨by rw[ae T,ae E];rfl,D⟩
   .
    have E:=af (ae H e);have eB:(p.toList == x.toList)=false:=by simp only[a0X,ne_eq];exact e
    go_wp2;go_roundw
    case rel=>exact⟨k+1,by have:=ae G;omega,by go_num,E,D,O⟩
    case measure=>have:=ae G;simp[intOf];omega
  .
   obtain rfl:k=n:=by omega
   have E:=af (Ob (N (ae b)));clear q u;go_wp2
   go_ret2
   exact⟨by rw[ae T,ae E];rfl,r⟩
def fy(e:En)(x:ByteArray):En:={ e with n:=x }
def cH(x y:ByteArray)(l:List En):Int×List En:=if fC y.data.toList then(if atN l x<0 then(2,[])else if fI (l.eraseIdx (atN l x).toNat) y then(3,[])else(0,l.set (atN l x).toNat (fy (l.getD (atN l x).toNat default) y)))else(1,[])
def BA{e:En}(h:fi e=true)(a:fC y.data.toList=true):fi (fy e y)=true:=by
 unfold fi gQ at *;simp only[a0k]at h ⊢;exact⟨a,h.2⟩
def Jn{l:List En}(h:bi l=true)(a:(cH x y l).1=0):bi (cH x y l).2=true:=by
 unfold cH at a ⊢
 split
 .
  rename_i he;rw[a0d he]at a
  split
  . rename_i hc;rw[a0d hc]at a;cases a
  .
   rename_i hc;rw[a0e hc]at a;obtain⟨k,c,h2,b⟩:=Ap hc;rw[h2]at a ⊢
   split
   . rename_i hn;rw[a0d hn]at a;cases a
   . rename_i hn;exact vy h b (BA (lI h b) he) (by show fI _ y=false;simpa using hn)
 . rename_i he;rw[a0e he]at a;cases a
def encS(x:ByteArray):List Value:=[.string x]
def NR(x:ByteArray):∀u∈encS x,u.oneCell'=true:=by
 intro u a;rw[encS,a09]at a;subst a;rfl
abbrev QX:=bj (α:=ByteArray) 9 1 encS
def yG(l:List En):List ByteArray:=l.map (·.n)
def EC(l:List En):(yG l).length=l.length:=by simp[yG]
def LB(l:List En)(k:Nat)(h:k<l.length):yG (l.take (k+1))=yG (l.take k)++[(l.getD k default).n]:=by
 have e:l.take (k+1)=l.take k++[l.getD k default]:=by
  rw[a1e h]
  congr 2
  simp[List.getD,h]
 rw[e];simp[yG]
def LC(l:List En)(k:Nat)(h:k<=l.length):(yG (l.take k)).length=k:=by rw[EC,a0u];omega
def yP(e:En)(w:World) :
  Calls prog 44 #[.agg e] w fun x w'=>x = .returned (.string e.n)/\Below w.heap.size w w':=by
 have a:=af ((a0c w.heap.size w).alloc (a0a _) (.cells e 26));go_enter func44,ntmps44;go_wp2;go_ret;exact⟨rfl,a⟩
def AL(a:Option Addr)(cap n:Nat)(l:List En)(w:World)(P:l.length=n)(h:iA w a l)(V:n<=6) :
  Calls prog 43 #[.slice a n cap,.func (.func 44) #[] #[]] w fun e w'=>∃v,e = .returned v/\QX w' w.heap.size v (yG l)/\Below w.heap.size w w':=by
 have X:(n:Int)<=6:=by omega
 have u:=af P;have R:=af h;clear P V h;obtain⟨i0,U,J,K,L⟩:=a0p Tryz.infoStr;go_enter func43,ntmps43;go_wp2_with fail
 go_loopw [5,7,10] (fun o _ i wr=>∃k:Nat,k<=n/\i = .int .i64 k/\QX wr w.heap.size o (yG (l.take k))/\Below w.heap.size w wr) (fun _ _ i _=>n-(intOf i).toNat)
 case atStart=>exact⟨0,a0g _,rfl,bj.nil _ _,a0c _ _⟩
 case round=>
  obtain⟨k,O,rfl,hq,b⟩:=hrel;have T:=b.size;by_cases H:k<n
  .
   obtain⟨g,o,rfl,hg,z⟩:=R.later b (by have:=ae u;omega);obtain⟨c0,c1,c2,c3,c4,Y,Z,c7⟩:=z k (by have:=ae u;omega);have I:=af (LB l k (by rw[ae u];exact H));have B:Hid ((yG (l.take k)).length=k):=LC l k (by rw[ae u];omega);have S:=af O;clear z O;generalize l.getD k default=en at *;have HP:=af (fun W=>yP en W);have N:Below wr.heap.size wr (wr.alloc (.cells en 26)):=cC;have M:=af N;have E:=af hq;have m:=af b;clear N hq b;go_wp2_with fail;refine(HP _).mono ?_;rintro e x1⟨rfl,x⟩;have F:=aj M x;have r:=bj.own B (E.later F (a0a _));have c:=aj m F;have p:=c.size;have j:Hid (k+1<=maxLen/\(k+1)*16<=140737488355328):=by
    show _/\_;unfold maxLen;omega
   clear E m M x F HP;go_wp2_with (at_builtin;refine a0w _ rfl _ _ 41 rfl w.heap.size 9 i0 (.string ByteArray.empty) 1 16 underlying41 U J K L rfl (by decide) _ _ _ rfl (a0o r _) ⟨x1.heap.size,0,none⟩ 1 1 (encS en.n) rfl rfl (jd x1 _ _) (NR _) j.1 j.2 (ar p _) ?_;intro v' x2 q f C;clear C);have G:=aH (v:=u5) f r (a0a _) p c;have D:QX x2 w.heap.size v' _:=bj.snoc B q;rw[←ae I]at D;clear q f r;go_wp2;go_roundw
   case rel=>exact⟨k+1,by have:=ae S;omega,by go_num,D,G⟩
   case measure=>simp[intOf];omega
  . have A:l.take k=l:=a0t (by rw[ae u];omega);rw[A]at hq;have E:=af hq;have Q:=af b;clear hq b A;go_wp2;go_ret;exact⟨_,rfl,E,Q⟩
def sW(s:ByteArray)(m:Int)(w:World)(r:s.size<=1048576)(q:w.cell? ⟨2,0,none⟩=some (.int .i64 m))(p:j9 w)(o:dp w) :
  Calls prog 15 #[s] w fun e w'=>(∃v,e = .returned v/\QX w' w.heap.size v (yG ((cV s).getD [])))/\Below w.heap.size w w':=by
 have C:=af (bS s m w r q p o);have t:=sf (s:=s);clear r q p o;go_enter func15,ntmps15;go_wp2_with fail;refine C.mono ?_;rintro e x1⟨⟨v,rfl,b⟩,f⟩;have d:=af f;obtain⟨L,hL⟩:∃l,(cV s).getD []=l:=⟨_,rfl⟩;rw[hL]at b t;have u:=af hL;obtain⟨n,hn⟩:∃n,L.length=n:=⟨_,rfl⟩;obtain⟨a,c,rfl,x,_⟩:=b.formN hn;have k:=af (AL a c n L x1 hn (bv hn b) (by omega));clear f C b hL x t hn;go_wp2_with fail;refine k.mono ?_;rintro e x2⟨v2,rfl,h,g⟩;have i:=af (aj d g);have j:=af (h.mono (base':=w.heap.size) d.size);clear h g k;go_wp2;go_ret;exact⟨⟨_,rfl,by rw[ae u];exact j⟩,i⟩
end Go.Proofs.YtfannoajibacnaaGreatDoor
set_option maxHeartbeats 6400000
namespace Go.Proofs.YtfannoajibacnaaGreatDoor
open Go.Proofs.Tryz
open Go.RowKit Corb
variable {b c g k n:Nat}{x y:ByteArray}
def y6(l:List En):∀u∈l.flatMap bu,u.oneCell'=true:=fun u b=>by
 obtain⟨e,_,a⟩:=List.mem_flatMap.1 b;exact gP e u a
def QE{w:World}{p:Nat}{A B:Addr}{n1 c1 n2 c2:Nat}{l1 l2:List En}(c:l1.length=n1)(h2:l2.length=n2)(c0:w.cell? ⟨p,0,none⟩=some (.slice (some A) n1 c1))(a:w.cell? ⟨p,1,none⟩=some (.slice (some B) n2 c2))
  (a1:∀W,Below w.heap.size w W->∀k u,(l1.flatMap bu)[k]?=some u->W.cell? (A.add k)=some u) (a2:∀W,Below w.heap.size w W->∀k u,(l2.flatMap bu)[k]?=some u->W.cell? (B.add k)=some u) :
  iV w p [(.slice (some A) n1 c1,l1.flatMap bu),(.slice (some B) n2 c2,l2.flatMap bu)]:=by
 intro j b;have b:j<2:=b;rcases (by omega:j=0∨j=1)with rfl|rfl
 . exact⟨c0,A,n1,c1,rfl,by show(l1.flatMap bu).length=_;rw[dm bf,c],y6 l1,a1⟩
 . exact⟨a,B,n2,c2,rfl,by show(l2.flatMap bu).length=_;rw[dm bf,h2],y6 l2,a2⟩
def JN{A B:Value}{l1 l2:List En} : aM [(A,l1.flatMap bu),(B,l2.flatMap bu)]=l1.length+l2.length:=by
 simp only[aM,cR,a0D,a1I,a0N,a3k,dm bf];omega
def S7{A B:Value}{l1 l2:List En} : eZ [(A,l1.flatMap bu),(B,l2.flatMap bu)]=(l1++l2).flatMap bu:=by
 simp[eZ]
def Pk{l:List En}(h:fC y.data.toList=false):cH x y l=(1,[]):=by unfold cH;rw[a0e (by rw[h];decide)]
def Pl{l:List En}(h:fC y.data.toList=true)(a:atN l x = -1):cH x y l=(2,[]):=by unfold cH;rw[a0d h,a0d (by omega)]
def Lz{l:List En}(b:bi l=true)(h:fC y.data.toList=true)(d:atN l x=(k:Int))(a:k<l.length):cH x y l=if aK (l.eraseIdx k) (fy (l.getD k default) y)=0 then(0,l.set k (fy (l.getD k default) y))else(aK (l.eraseIdx k) (fy (l.getD k default) y),[]):=by
 have c:=BA (lI b a) h;have g:=(ct b).2;have e:¬ 6<=(l.eraseIdx k).length:=by rw[List.length_eraseIdx,a0d a];omega
 have f:aK (l.eraseIdx k) (fy (l.getD k default) y)=if fI (l.eraseIdx k) y then 3 else 0:=by
  unfold aK;rw[a0d c,a0e e];rfl
 unfold cH;rw[a0d h,a0e (by omega),d,a0n,f];cases fI (l.eraseIdx k) y<;>rfl
def BB(x y:ByteArray)(v:Value)(l:List En)(bt bn b:Nat)(m:Int)(w:World)(h:cO w b v l)(hz:bi l=true)(hb:b<=w.heap.size)(ht:w.cell? ⟨bt,0,none⟩=some (.string y))(hx:w.cell? ⟨bn,0,none⟩=some (.string x))(hy:y.size<=1048576)(hm:w.cell? ⟨2,0,none⟩=some (.int .i64 m)) :
  Calls prog 77 #[v,.pointer bt,.pointer bn] w (qG b w (cH x y l)):=by
 have a3:=cE
 obtain⟨n,hn⟩:∃n,l.length=n:=⟨_,rfl⟩;obtain⟨a,c,rfl,hc,_⟩:=h.formN hn;have bs:(n:Int)<=6:=by have:=(ct hz).2;omega
 have CN:=af (nV y m w hy hm);have HO:=af h;have u:=af hn;have HB:=af hb;have HZ:=af hz;have HY:=af hy;have CC:=af (fun W (hW:Below w.heap.size w W)=>a0b ((hW.cell (p:=⟨bt,0,none⟩) (World.block_lt_of_cell? _ _ ht)).trans ht) (a0b ((hW.cell (p:=⟨bn,0,none⟩) (World.block_lt_of_cell? _ _ hx)).trans hx) ((hW.cell (p:=⟨2,0,none⟩) (World.block_lt_of_cell? _ _ hm)).trans hm)));clear h hn hb hz hy hx hm;go_enter func77,ntmps77;go_wp2_with fail;refine CN.mono ?_;rintro f x1⟨rfl,ab⟩;have J:=af ab;have X:=af (HO.later ab (a0a _));clear CN ab HO ht;obtain⟨E,hE⟩:∃b,fC y.data.toList=b:=⟨_,rfl⟩;have HE:=af hE;rw[hE];clear hE;cases E
 .
  have U:Hid ((cH x y l).1=1):=by show _=_;rw[Pk HE]
  have q:=af (J.mono HB);go_wp2
  go_ret2
  exact mF U (by decide) q
 .
  have CF:=af (mH a c l n u x x1 (bv u X) (by omega));have q1:=(CC _ (ae J)).2.1;go_wp2_with fail;refine CF.mono ?_;rintro f x2⟨rfl,ac⟩;have D:=af (aj J ac);have H:=af (X.later ac (a0a _));clear CF ac X J q1;rcases su l x with hh|⟨k,hk,hh⟩
  .
   have U:Hid ((cH x y l).1=2):=by show _=_;rw[Pl HE hh]
   have q:=af (D.mono HB);rw[vf (by omega)];clear hh;go_wp2
   go_ret2
   exact mF U (by decide) q
  .
   have U:=af (Lz HZ HE hh hk);rw[qZ (by omega),hh];have Q:k<n:=by have:=ae u;omega
   have bk:(k:Int)<(n:Int):=(by omega);have V:=af Q;obtain⟨g,rfl⟩:=H.somes (by omega);obtain⟨d0,d1,d2,d3,d4,d5,d6,d7⟩:=kj u H k Q;have q1:=(CC _ (ae D)).1;have a5:=dK HZ k hk;have B:=af (oS u Q);obtain⟨A,hA,a2⟩:=xF (b:=b) (g:=g) u hc k Q;have HA:=af hA;have a6:=af a2;have ba:=af a5;have bc:Hid (∀i,i<k+(n-(k+1))->(((l.eraseIdx k).getD i default).n.size:Int)<=1048576):=fun i hi=>by
    have:=(dK (pw HZ k) i (by rw[ae B];exact hi)).1;omega
   clear hh hk a5 hA a2;generalize l.getD k default=e at *;have a1:=af (D.alloc D.size (.cells #[y,e.y,e.mo,e.d,e.h,e.mi,e.s,e.t] 26));have ao:=af (H.later ((a0c _ _).alloc (a0a _) (.cells #[y,e.y,e.mo,e.d,e.h,e.mi,e.s,e.t] 26)) (a0a _));have PM:=af (ay x2 #[y,e.y,e.mo,e.d,e.h,e.mi,e.s,e.t] 26);have k4:IntKind.i64.wrap ((k:Int)+1)=(k:Int)+1:=by simp only[IntKind.wrap,IntKind.bits,IntKind.signed];simp;omega
   have bl:k<c:=(by omega);have be:(n:Int)<=(c:Int):=(by omega);have q2:=(((a0c x2.heap.size x2).alloc (a0a _) (.cells e 26)).cell (p:=⟨bt,0,none⟩) (World.block_lt_of_cell? _ _ q1)).trans q1;have b0:¬ x2.heap.size=bt:=by have:=World.block_lt_of_cell? _ _ q1;simp at this;omega
   go_wp2_with fail;refine wp_region_held_drew (S:=fun _=>True) a3 trivial (fun hS=>?_);refine ag 0 (.slice g n c) rfl (fun W r=>by go_simp) hS ?_;refine ag 1 (.int .i64 (k:Nat)) rfl (fun W r=>by go_simp) hS ?_;refine ag 2 (.slice g k c) rfl (fun W r=>by go_simp<;>(intro h;omega)) hS ?_;refine ag 3 (.slice g n c) rfl (fun W r=>by go_simp) hS ?_;refine ag 4 (.int .i64 (k:Nat)) rfl (fun W r=>by go_simp) hS ?_;refine ag 5 (.int .i64 ((k:Int)+1)) rfl (fun W r=>by go_simp) hS ?_;refine ag 6 (.slice (some A) (n-(k+1)) (c-(k+1))) rfl (fun W r=>by go_simp;first|(rw[a0d (by omega),ae HA])|(rw[ae HA])|skip) hS ?_;have a0:=af (ae a1).drew;have al:=af (ao.later ((a0c _ _).drew) (a0a _));have M:=af (ae PM).drew;clear a1 ao PM d0 d1 d2 d3 d4 d5 d6 d7 q1 q2 H D;obtain⟨pm,hpm⟩:∃z,x2.heap.size=z:=⟨_,rfl⟩;rw[hpm]at M;rw[hpm];generalize (x2.alloc (.cells #[y,e.y,e.mo,e.d,e.h,e.mi,e.s,e.t] 26)).drew=W5 at *;refine ah 7 fun K1 j=>?_;go_simp;have N:=(a0c W5.heap.size W5).alloc (a0a _) (.cells #[.slice g k c,.slice (some A) (n-(k+1)) (c-(k+1))] 31);have Z:=af (aj a0 N);have C:=af (al.later N (a0a _));have K:=af (M.later N M.1);have F:=af (ay W5 #[.slice g k c,.slice (some A) (n-(k+1)) (c-(k+1))] 31);refine Shut.out j _ _ trivial (fun _=>?_);clear j K1 N a0 al M;obtain⟨pb,hpb⟩:∃z,W5.heap.size=z:=⟨_,rfl⟩;obtain⟨W6,hW6⟩:∃z,W5.alloc (.cells #[.slice g k c,.slice (some A) (n-(k+1)) (c-(k+1))] 31)=z:=⟨_,rfl⟩;rw[hW6]at Z C K;rw[hpb,hW6]at F;rw[hpb,hW6];clear hpb hW6;have R:(l.take k).length=k:=by rw[a0u,ae u];omega
   have T:(l.drop (k+1)).length=n-(k+1):=(by rw[a04,ae u]);have hR:=QE (c1:=c) (c2:=c-(k+1)) R T (F.cell 0 _ rfl) (F.cell 1 _ rfl) (fun W hW=>ET u (C.later hW (a0a _)) k) (fun W hW=>ae a6 W (C.later hW (a0a _)));have CX:=af (CQ pb 2 2 _ W6 rfl (by omega) (by omega) hR (by rw[JN,R,T];omega));rw[JN,S7,R,T,←a2T]at CX;clear hR R T F;refine ah 8 fun K1 j=>?_;go_simp;go_at_call 79;refine CX.mono ?_;rintro f W7⟨v7,rfl,a4,O⟩;have Y:Hid (cO W7 W6.heap.size v7 (l.eraseIdx k)):=by show World.ownsRow _ _ _ _ _ (l.eraseIdx k).length _;rw[ae B];exact a4
   have aa:=af (aj Z O);have ad:=af (C.later O (a0a _));have L:=af (K.later O K.1);refine Shut.out j _ _ trivial (fun _=>?_);clear j K1 CX O a4 Z C K;obtain⟨a7,c7,rfl,_,_⟩:=bj.formN B Y;refine ah 9 fun K1 j=>?_;go_simp;refine Shut.out j _ _ trivial (fun _=>?_);clear j K1;refine wpAnyH_done (by kernel_rfl) ?_ _;have CR:=af (lA a7 c7 (l.eraseIdx k) (k+(n-(k+1))) B (fy e y) m W7 (bv B Y) (by omega) bc HY ba.2 (CC _ (ae aa)).2.2);have pA:=L.cells (n:=8) rfl;go_wp2_with fail;refine CR.mono ?_;rintro f W8⟨rfl,P⟩;have bb:=af (aj aa P);have I:=af (ad.later P (a0a _));have bd:=af (L.later P L.1);have q:=af (bb.mono HB);clear P CR pA L ad aa Y;by_cases o:aK (l.eraseIdx k) (fy e y)=0
   .
    rw[show cX (aK (l.eraseIdx k) (fy e y)) = .nilIface by rw[o];rfl];have G:Hid (cH x y l=(0,l.set k (fy e y))):=by show _=_;rw[ae U,a0d o]
    obtain⟨d0,d1,d2,d3,d4,d5,d6,d7⟩:=kj u I k V;obtain⟨f0,f1,f2,f3,f4,f5,f6,f7⟩:=oR u I k V;have HP:=af (bj.put bf u I k V (fy e y));have a8:=af (kI q I.below.1 (bu (fy e y)) (k*8));have pA:=bd.cells (n:=8) rfl;clear o U;generalize l.getD k default=y0 at *;go_wp2
    go_ret2
    refine⟨⟨.slice g n c,?_,⟨_,_,_,rfl⟩,fun _=>?_⟩,a8⟩
    . rw[ae G];rfl
    . rw[ae G];exact HP
   .
    have G:Hid ((cH x y l).1=aK (l.eraseIdx k) (fy e y)):=by show _=_;rw[ae U,a0e o]
    rw[show cX (aK (l.eraseIdx k) (fy e y)) = .iface 83 (.agg #[.int .i64 (aK (l.eraseIdx k) (fy e y))]) by unfold cX;rw[a0e o]];have a9:=af o;generalize aK (l.eraseIdx k) (fy e y)=rc at *;clear o;go_wp2
    go_ret2
    exact mF G a9 q
def BC(s:ByteArray)(d:List En->Int×List En)(bt X:Nat)(m:Int)(w:World)(R:s.size<=1048576)(I:w.cell? ⟨2,0,none⟩=some (.int .i64 m))(M:j9 w)(L:dp w)
  (hd:∀l,bi l=true->(d l).1=0->bi (d l).2=true)
  (Y:∀W v l,cV s=some l->Below w.heap.size w W->cO W w.heap.size v l->Calls prog 77 #[v,.pointer bt,.pointer X] W (qG w.heap.size W (d l))) :
  Calls prog 21 #[s,.func (.func 77) #[] #[.pointer bt,.pointer X]] w fun f w'=>f = .returned (edR s d)/\Below w.heap.size w w':=by
 have C:=af (bS s m w R I M L);have HM:=af I;have P:=af (World.block_lt_of_cell? _ _ I);have Z:=af (fun W (hb:Below w.heap.size w W)=>(hb.cell (p:=⟨2,0,none⟩) P).trans HM);have V:=af (fun W (hb:Below w.heap.size w W)=>M.later hb);have J:=af (fun W (hb:Below w.heap.size w W)=>L.later hb);have U:=af Y;have Hd:=af hd;have HS:=af R;clear R I M L hd Y;go_enter func21,a4c;go_wp2_with fail;refine C.mono ?_;rintro f x1⟨⟨v,rfl,b⟩,h⟩;have B:=af h;clear C;rcases z:cV s with _|l
 .
  have D:=af (ju z d);clear z b h;go_wp2
  go_ret2
  exact⟨by rw[ae D];rfl,B⟩
 .
  rw[z]at b;have CD:=af (ae U x1 v l z h b);have K:=af z;clear z b h U;go_wp2_with fail;refine CD.mono ?_;rintro f x2⟨⟨v2,rfl,⟨a,n,c,rfl⟩,G⟩,E⟩;have o:=af (B.trans E);have A:=af (iy (d l).1 x2 (V _ (ae o)));have H:=af G;clear E G CD;obtain⟨q,hq⟩:∃q,d l=q:=⟨_,rfl⟩;have Hq:=af hq;rw[hq]at A H;rw[hq];clear hq;obtain⟨k,r⟩:=q;simp only at A H;simp only;obtain⟨FV,hFV⟩:∃x,cX k=x:=⟨_,rfl⟩;rw[hFV]at A;rw[hFV];clear hFV;go_wp2_with fail;refine A.mono ?_;rintro f x3⟨rfl,u⟩;have e:=af (aj o u);have j:=af u;clear u A;by_cases O:k=0
  .
   subst O;have y:bi r=true:=by have:=ae Hd l (eG K) (by rw[ae Hq]);rw[ae Hq]at this;exact this
   have Q:cO x2 w.heap.size (.slice a n c) r:=ae H rfl;obtain⟨N,hN⟩:∃n,r.length=n:=⟨_,rfl⟩;obtain⟨a',c',e',aa,_⟩:=Q.formN hN;cases e'
   have F:=Q.later j (a0a _);have h6:=(ct y).2;have T:=af (dM a c r n hN m x3 (bv hN F) (by omega) (by omega) (fun i hi=>dK y i (by omega)) (Z _ (ae e)) (V _ (ae e)) (J _ (ae e)));have D:=af (iY K Hq);clear y Q F h6 H j o;go_wp2_with fail;refine T.mono ?_;rintro f x4⟨rfl,g⟩;have t:=af (aj e g);clear g T;go_wp2
   go_ret2
   exact⟨by rw[ae D];rfl,t⟩
  .
   have D:=af (lj K Hq O);have S:=af (fun W=>jj s W (by have:=ae HS;omega));have hd:decide (k=0)=false:=a0m O;go_wp2_with fail;refine(S _).mono ?_;rintro f x4⟨rfl,g⟩;have t:=af (aj e g);clear g S;go_wp2
   go_ret2
   exact⟨by rw[ae D];rfl,t⟩
def AP(x y:ByteArray)(w:World) :
  Calls prog 39 #[x,y] w fun f w'=>f = .returned (.func (.func 77) #[] #[.pointer (some ⟨w.heap.size+1,0,none⟩),.pointer w.heap.size])/\w'=(w.alloc (.cells #[x] 9)).alloc (.cells #[y] 9):=by
 go_enter func39,ntmps39;go_wp2;go_ret;exact⟨rfl,rfl⟩
def ni(s x y:ByteArray)(m:Int)(w:World)(r:s.size<=1048576)(u:y.size<=1048576)(e:w.cell? ⟨2,0,none⟩=some (.int .i64 m))(q:j9 w)(o:dp w) :
  Calls prog 12 #[s,x,y] w fun f w'=>f = .returned (edR s (cH x y))/\Below w.heap.size w w':=by
 have c:=(a0c w.heap.size w).alloc (a0a _) (.cells #[x] 9);have b:=af (c.alloc c.size (.cells #[y] 9));have j:((w.alloc (.cells #[x] 9)).alloc (.cells #[y] 9)).cell? ⟨w.heap.size,0,none⟩=some (.string x):=((ay w #[x] 9).later cC (ay w #[x] 9).1).cell 0 _ rfl;have d:((w.alloc (.cells #[x] 9)).alloc (.cells #[y] 9)).cell? ⟨w.heap.size+1,0,none⟩=some (.string y):=by
  have:=(ay (w.alloc (.cells #[x] 9)) #[y] 9).cell 0 _ rfl;rw[show(w.alloc (.cells #[x] 9)).heap.size=w.heap.size+1 by simp]at this;exact this
 have CD:=af (BC s (cH x y) (w.heap.size+1) w.heap.size m _ r ((b.cell (p:=⟨2,0,none⟩) (World.block_lt_of_cell? _ _ e)).trans e) (q.later b) (o.later b) (fun _ h A=>Jn h A)
   (fun W v l C a B=>BB x y v l (w.heap.size+1) w.heap.size _ m _ B (eG C) a.size ((a.cell (p:=⟨w.heap.size+1,0,none⟩) (World.block_lt_of_cell? _ _ d)).trans d) ((a.cell (p:=⟨w.heap.size,0,none⟩) (World.block_lt_of_cell? _ _ j)).trans j) u (((b.trans (a.mono b.size)).cell (p:=⟨2,0,none⟩) (World.block_lt_of_cell? _ _ e)).trans e)))
 clear r e q o j d c u;go_enter func12,ntmps12;go_wp2_with fail;refine(AP x y _).mono ?_;rintro f x1⟨rfl,n⟩;subst n;go_wp2_with fail;refine CD.mono ?_;rintro f x2⟨rfl,a⟩;have g:=af (aj b a);clear a CD b;obtain⟨t,k,i⟩:=ve s (cH x y);have z:=af i;rw[i];clear i;go_wp2
 go_ret2
 exact⟨by rw[ae z];rfl,g⟩
end Go.Proofs.YtfannoajibacnaaGreatDoor
set_option maxHeartbeats 3200000
namespace Go.Proofs.YtfannoajibacnaaGreatDoor
open Go.RowKit Corb
def KF(l:List En)(k:Nat)(b:k<l.length)(y:ByteArray):(l.flatMap bu).set (k*8) (.string y)=(l.set k (fy (l.getD k default) y)).flatMap bu:=by
 apply List.ext_getElem?;intro i;by_cases c:i<l.length*8
 .
  obtain⟨q,r,hr,rfl⟩:∃q r,r<8/\i=q*8+r:=⟨i/8,i%8,a0Z _ (by omega),by omega⟩;have hq:q<l.length:=by omega
  rw[flat_get bf _ default q r (by rw[a00];exact hq) hr,List.getElem?_set,dm bf];by_cases e:k=q
  .
   subst e;have e1:(l.set k (fy (l.getD k default) y)).getD k default=fy (l.getD k default) y:=by simp[List.getD,b]
   rw[e1];by_cases a:r=0
   . subst a;rw[a0d (by omega),a0d (by omega)];rfl
   .
    rw[a0e (by omega),flat_get bf l default k r b hr]
    match r,hr,a with
    | 1,_,_=>rfl
    | 2,_,_=>rfl
    | 3,_,_=>rfl
    | 4,_,_=>rfl
    | 5,_,_=>rfl
    | 6,_,_=>rfl
    | 7,_,_=>rfl
  .
   have e1:(l.set k (fy (l.getD k default) y)).getD q default=l.getD q default:=by simp[List.getD,e]
   rw[e1,a0e (by omega),flat_get bf l default q r hq hr]
 . rw[List.getElem?_eq_none (by rw[a00,dm bf];omega),List.getElem?_eq_none (by rw[dm bf,a00];omega)]
def PE{w:World}{base g cap n:Nat}{l:List En}(b:l.length=n)(h:cO w base (.slice g n cap) l)(k:Nat)(a:k<n)(y:ByteArray):cO (w.setCell ⟨g,k*8,none⟩ (.string y)) base (.slice g n cap) (l.set k (fy (l.getD k default) y)):=by
 subst b;have:=(a2u (show w.ownsRow _ _ _ _ _ _ from h) (k*8) (.string y)).1;rw[KF l k a]at this;show World.ownsRow _ _ _ _ _ (l.set k _).length _;rw[a00];exact this
def uW(s x y:ByteArray)(w:World)(hs:s.size<=1048576)(hy:y.size<=1048576) :
  Calls Tryz.prog 13 #[s,x,y] w fun f w'=>f = .returned (edR s (cH x y))/\Below w.heap.size w w':=by
 have C:=af (fun W=>kQ s W hs);have CN:=af (fun W=>oB y W hy);have hz:=sf (s:=s);have HY:=af (show(y.size:Int)<=1048576 by omega);clear hs hy;go_enter Tryz.func13,Tryz.ntmps13;go_wp2_with fail;refine(C _).mono ?_;rintro f x1⟨⟨v,rfl,e⟩,R⟩;have D:=af R;obtain⟨L,hL⟩:∃l,(cV s).getD []=l:=⟨_,rfl⟩;rw[hL]at e hz;obtain⟨n,hn⟩:∃n,L.length=n:=⟨_,rfl⟩;obtain⟨a,c,rfl,hc,_⟩:=e.formN hn;have a0:(n:Int)<=6:=by omega
 have C2:=af (wL a c L n hn x x1 (bv hn e) (by omega));have HL:=af hL;have HO:=af e;have N:=af hn;clear R C e hL hc hz;go_wp2_with fail;refine C2.mono ?_;rintro f x2⟨rfl,aa⟩;subst aa;clear C2;rcases T:cV s with _|l
 .
  have t:=af (ju T (cH x y));clear T;go_wp2_with fail;refine(mT s false _).mono ?_;rintro f x3⟨rfl,ab⟩;subst ab;go_wp2
  go_ret2
  exact⟨by rw[ae t];rfl,D⟩
 .
  obtain rfl:l=L:=by have:=ae HL;rw[T]at this;exact this
  have M:=af T;clear T HL;go_wp2_with fail;refine(CN _).mono ?_;rintro f x3⟨rfl,H⟩;have q:=af (aj D H);have u:=af (HO.later H (a0a _));clear CN H HO D;obtain⟨E,hE⟩:∃b,fC y.data.toList=b:=⟨_,rfl⟩;have F:Hid (fC y.data.toList=E):=hE;rw[hE];clear hE;cases E
  .
   have t:=af (lj (d:=cH x y) (c:=1) (r:=[]) M (by unfold cH;rw[a0e (by rw[ae F];decide)]) (by decide));go_wp2_with fail;refine(mT s true _).mono ?_;rintro f x4⟨rfl,ac⟩;subst ac;go_wp2
   go_ret2
   exact⟨by rw[ae t];rfl,q⟩
  .
   rcases su l x with h|⟨k,hk,h⟩
   .
    have t:=af (lj (d:=cH x y) (c:=2) (r:=[]) M (by unfold cH;rw[a0d (ae F),a0d (by omega)]) (by decide));rw[h];clear h;go_wp2
    go_ret2
    exact⟨by rw[ae t];rfl,q⟩
   .
    have V:Hid (cH x y l=if fI (l.eraseIdx k) y=true then(3,[])else(0,l.set k (fy (l.getD k default) y))):=by show _=_;unfold cH;rw[a0d (ae F),a0e (by omega),h,a0n]
    have U:=pw (eG M) k;have G:=af U;rw[h];have J:k<n:=by have:=ae N;omega
    have ao:(k:Int)<(n:Int):=(by omega);have Y:=af J;obtain⟨g,rfl⟩:=u.somes (by omega);have CW:=af (yE g c n k l _ x3 N u (by omega) J);clear h hk J U;go_wp2_with fail;refine CW.mono ?_;rintro f x4⟨⟨v4,rfl,K⟩,I⟩;have O:=af (aj q I);have m:=af (u.later I (a0a _));obtain⟨n4,hn4⟩:∃n,(l.eraseIdx k).length=n:=⟨_,rfl⟩;obtain⟨a4,c4,rfl,_,_⟩:=K.formN hn4;have Q:(n4:Int)<=1048576:=by have:=(ct G).2;omega
    have CC:=af (uf a4 c4 (l.eraseIdx k) n4 hn4 y x4 (bv hn4 K) Q HY (fun i hi=>by have:=(dK G i (by omega)).1;omega));clear I CW K hn4 Q u q G;go_wp2_with fail;refine CC.mono ?_;rintro f x5⟨rfl,ad⟩;subst ad;clear CC;by_cases j:fI (l.eraseIdx k) y=true
    .
     have t:=af (lj (d:=cH x y) (c:=3) (r:=[]) M (by rw[ae V,a0d j]) (by decide));rw[j];clear j V;go_wp2
     go_ret2
     exact⟨by rw[ae t];rfl,O⟩
    .
     have hd:cH x y l=(0,l.set k (fy (l.getD k default) y)):=(by rw[ae V,a0e j]);have t:=af (iY M hd);have z:=Jn (x:=x) (y:=y) (eG M) (by rw[hd]);rw[hd]at z;have A:fI (l.eraseIdx k) y=false:=by cases hh:fI (l.eraseIdx k) y with
      | true=>exact absurd hh j
      | false=>rfl
     rw[A];have p:(l.set k (fy (l.getD k default) y)).length=n:=by rw[a00];exact N
     have B:=PE N m k Y y;have d0:=(kj N m k Y).1;have f0:=(oR N m k Y).1;have P:=af (ai (o:=k*8) O m.below.1 (.string y));have C5:=af (pd (some ⟨g,0,none⟩) c n (l.set k (fy (l.getD k default) y)) _ p (bv p B) (by omega) (fun i hi=>lI z (by omega)));have Z:=af (vw z p);have al:=m.below.2;clear j A B hd z V;go_wp2_with fail;refine C5.mono ?_;rintro f x6⟨rfl,S⟩;have X:=af (aj P S);rw[←ae Z];clear S P C5;go_wp2
     go_ret2
     exact⟨by rw[ae t];rfl,X⟩
end Go.Proofs.YtfannoajibacnaaGreatDoor
set_option maxHeartbeats 3200000
namespace Go.Proofs.YtfannoajibacnaaGreatDoor
open Go.Proofs.Tryz
open Go.RowKit Corb
variable {b:Nat}{w w':World}
def uJ(a:Option Addr)(len cap:Nat)(z:Nat->Int)(w:World)(h:Src w a len z)(C:len<=cap)(D:len<=maxLen) :
  Calls prog 11 #[.slice a len cap] w fun e w'=>(∃s x y:ByteArray,e = .returned (.tuple #[s,x,y])/\s.size<=9100/\x.size<=100/\y.size<=100)/\Below w.heap.size w w':=by
 go_enter func11,ntmps11;go_wp2_with fail;refine(wE a len cap z _ h C D).mono ?_;rintro e w1⟨rfl,r,k,E⟩;go_wp2_with fail;refine(wD _ _ 0 _ r (by omega)).mono ?_;rintro e w2⟨⟨l,G,rfl⟩,g,c⟩;have H:=kX l;have n:=af (k.trans c.1);generalize dC l=S at *;clear c G;go_wp2_with fail;refine(ub _ _ _ S _ g (by omega) (by omega)).mono ?_;rintro e w3⟨⟨t,rfl,F⟩,i,b⟩;have o:=af (n.trans b);clear b g;go_wp2_with fail;refine(oc _ _ _ _ i (by omega)).mono ?_;rintro e w4⟨x,A,rfl,j,d⟩;have p:=af (o.trans d.1);have u:=vn (a03.2 (.inr A));clear d i A;go_wp2_with fail;refine(oa _ _ _ _ j (by omega)).mono ?_;rintro e w5⟨y,B,rfl,m,f⟩;have q:=af (p.trans f.1);have v:=vn B;clear f m j B;go_wp2
 go_ret3
 exact⟨⟨t,x,y,rfl,F,u,v⟩,q⟩
end Go.Proofs.YtfannoajibacnaaGreatDoor
set_option maxHeartbeats 6400000
namespace Go.Proofs.YtfannoajibacnaaGreatDoor
open Go.Proofs.Tryz
open Corb
variable {k:Nat}{x:ByteArray}
def Uk{e:En}(h:fi e=true):fC e.n.data.toList=true:=by
 unfold fi gQ at h;simp only[a0k]at h;exact h.1
def Ly{l:List En}(h:bi l=true){y:ByteArray}(u:fC y.data.toList=true)(d:atN l x=(k:Int))(s:fI (l.eraseIdx k) y=false) :
  bi (l.set k (fy (l.getD k default) y))=true/\vX l x = .tuple #[.string (l.getD k default).t,.bool true]/\vX (l.set k (fy (l.getD k default) y)) y = .tuple #[.string (l.getD k default).t,.bool true] /\
   edR (dC (l.set k (fy (l.getD k default) y))) (cH y x) = .tuple #[.string (dC l),.int .i64 0]/\((x=y/\∃T,vX (l.set k (fy (l.getD k default) y)) x = .tuple #[.string T,.bool true])∨(x≠y/\vX (l.set k (fy (l.getD k default) y)) x = .tuple #[.string ⟨#[]⟩,.bool false])):=by
 obtain⟨b,_⟩:=qN d;have q:=BA (lI h b) u;have f:=vy h b q (show fI (l.eraseIdx k) (fy (l.getD k default) y).n=false from s);obtain⟨r,hr⟩:∃r,l.set k (fy (l.getD k default) y)=r:=⟨_,rfl⟩;have p:r.length=l.length:=by rw[←hr];exact a00 ..
 have g:r.getD k default=fy (l.getD k default) y:=by rw[←hr,ri _ b,a0d rfl]
 rw[hr]at f ⊢;have c:=I0 f (i:=k) (by omega);rw[g]at c;have c:atN r y=(k:Int):=c;have m:=at_eq d;have o:vX r y = .tuple #[.string (l.getD k default).t,.bool true]:=by rw[AW c,g];rfl
 refine⟨f,AW d,o,iY (kY f) ?_,?_⟩
 .
  have e1:r.eraseIdx k=l.eraseIdx k:=by
   rw[←hr];refine(List.ext_getElem? fun j=>?_);simp only[List.getElem?_eraseIdx,List.getElem?_set]
   split
   . rw[a0e (by omega)]
   . rw[a0e (by omega)]
  have e2:r.set k (fy (r.getD k default) x)=l:=by
   rw[g,←m,←hr];exact Ff b _
  unfold cH;rw[←m,a0d (Uk (lI h b)),m,c,a0e (by omega),a0n,e1,vE h d,a0e (by decide),e2]
 .
  by_cases a:x=y
  . subst a;exact .inl ⟨rfl,_,o⟩
  .
   refine .inr ⟨a,Ob (qM fun j v e=>?_)⟩;have e2:(r.getD j default).n=x:=ck (dt.1 e);rw[←hr,ri _ b]at e2
   split at e2
   . exact a e2.symm
   . rename_i hjk;exact hjk ((Tl h d (by omega)).1 e2)
open Go.RowKit
def Ig{y:ByteArray}{l:List En}(h:(cH x y l).1=0):fC y.data.toList=true/\∃k,k<l.length/\atN l x=(k:Int)/\fI (l.eraseIdx k) y=false/\cH x y l=(0,l.set k (fy (l.getD k default) y)):=by
 unfold cH at h ⊢
 split at h
 .
  rename_i he;refine⟨he,?_⟩;rw[a0d he]
  split at h
  . cases h
  .
   rename_i hc;obtain⟨k,a,h2,c⟩:=Ap hc;rw[h2]at h
   split at h
   . cases h
   .
    rename_i hn;refine⟨k,c,a,?_,by rw[a0e hc,h2,a0e hn]⟩;cases b:fI (l.eraseIdx k) y with
    | true=>exact absurd b hn
    | false=>rfl
 . cases h
def N9(a:Option Addr)(len cap:Nat)(zs:List Int)(m:Int)(w:World)(w0:Ch .u8 w a len cap zs)(hm:w.cell? ⟨2,0,none⟩=some (.int .i64 m))(hg:j9 w)(hO:dp w) :
  Ds 4 #[.slice a len cap] w (.bool true):=by
 obtain⟨⟨z,M⟩,hc,G⟩:=Iw w0;have a2:=af (uJ a len cap z w M hc G);have c:=af (fun W (hb:Below w.heap.size w W)=>a0b ((hb.cell (p:=⟨2,0,none⟩) (World.block_lt_of_cell? _ _ hm)).trans hm) (a0b (hg.later hb) (hO.later hb)));unfold maxLen at G;clear w0 M hm hg hO;by_cases hl:(len:Int)<=1048576
 .
  go_enter func4,ntmps4;go_wp2_with fail;refine a2.mono ?_;rintro e w1⟨⟨S,x,y,rfl,a8,a9,ba⟩,a4⟩;have d:=af a4;clear a4 a2 G hc;have C:=af (a0b a8 (a0b a9 ba));have Q:=af (fun W (b:Below w.heap.size w W)=>ni S x y m W (by have:=ae C;omega) (by have:=ae C;omega) (c W b).1 (c W b).2.1 (c W b).2.2);have T:=af (fun W=>uW S x y W (by have:=ae C;omega) (by have:=ae C;omega));clear a8 a9 ba;rcases N:cV S with _|l
  .
   have I:=af (ju N (cH x y));clear N;rw[ae I]at Q T;clear I;go_wp2_with fail;refine(Q _ (ae d)).mono ?_;rintro e w3⟨rfl,o⟩;have g:=af (aj d o);clear o d;go_wp2_with fail;refine(T _).mono ?_;rintro e w4⟨rfl,s⟩;have A:=af (aj g s);clear s g;go_wp2;all_goals
    go_ret;exact⟨rfl,A⟩
  .
   by_cases hk:(cH x y l).1=0
   .
    have L:=eG N;obtain⟨hy,k,bk,ha,hc,hd⟩:=Ig hk;obtain⟨a0,al,J,aa,ao⟩:=Ly L hy ha hc;have I:Hid (edR S (cH x y) = .tuple #[.string (dC (l.set k (fy (l.getD k default) y))),.int .i64 0]):=iY N hd;have HZ:=af L;obtain⟨n,hn⟩:∃n,l.length=n:=⟨_,rfl⟩;obtain⟨Tx,hTx⟩:∃q,(l.getD k default).t=q:=⟨_,rfl⟩;obtain⟨r,hr⟩:∃r,l.set k (fy (l.getD k default) y)=r:=⟨_,rfl⟩;have hN:r.length=n:=by rw[←hr,a00];exact hn
    rw[hr]at a0 J aa ao I;rw[hTx]at al J;have HN:=af hn;have a3:=af ((EC r).trans hN);have bb:Hid (n<=6):=by show _<=_;have:=(ct L).2;omega
    have bn:=kX r;have a1:=af (fun W (b:Below w.heap.size w W)=>bS S m W (by have:=ae C;omega) (c W b).1 (c W b).2.1 (c W b).2.2);have O:=af (fun W (b:Below w.heap.size w W)=>jP S x m W (by have:=ae C;omega) (c W b).1 (c W b).2.1 (c W b).2.2);have E:=af (fun W (b:Below w.heap.size w W)=>jP (dC r) y m W (by omega) (c W b).1 (c W b).2.1 (c W b).2.2);have u:=af (fun W (b:Below w.heap.size w W)=>jP (dC r) x m W (by omega) (c W b).1 (c W b).2.1 (c W b).2.2);have CB:=af (fun W (b:Below w.heap.size w W)=>ni (dC r) y x m W (by omega) (by have:=ae C;omega) (c W b).1 (c W b).2.1 (c W b).2.2);have CN:=af (fun W (b:Below w.heap.size w W)=>sW (dC r) m W (by omega) (c W b).1 (c W b).2.1 (c W b).2.2);rw[N]at a1 O;rw[kY a0]at E u CN;rw[show(some l).getD []=l from rfl,al]at O;rw[show(some r).getD []=r from rfl]at E u CN;rw[J]at E;rw[aa]at CB;have bc:=af ao;obtain⟨X,hX⟩:∃x,dC r=x:=⟨_,rfl⟩;obtain⟨P,hP⟩:∃x,dC l=x:=⟨_,rfl⟩;have HP:=af hP;rw[ae I]at Q T;rw[hX]at Q T E u CB CN;rw[hP]at CB;clear N hk hy bk ha hc hd L a0 al J aa ao hn hN bn hX hP I hr hTx;go_wp2_with fail;refine(Q _ (ae d)).mono ?_;rintro e w3⟨rfl,o⟩;have g:=af (aj d o);clear o d;go_wp2_with fail;refine(T _).mono ?_;rintro e w4⟨rfl,s⟩;have A:=af (aj g s);clear s g;go_wp2_with fail;refine(a1 _ (ae A)).mono ?_;rintro e w5⟨⟨v5,rfl,H⟩,a6⟩;have U:=af (aj A a6);have H:cO w5 w4.heap.size v5 l:=H;obtain⟨a5,c5,rfl,be,_⟩:=H.formN HN;have a7:(n:Int)<=(c5:Int):=(by omega);have O5:=af H;clear H be a6 A;go_wp2_with fail;refine(O _ (ae U)).mono ?_;rintro e w6⟨rfl,ab⟩;have V:=af (aj U ab);have O6:=af (O5.later ab (a0a _));clear ab U  O5;go_wp2_with fail;refine(E _ (ae V)).mono ?_;rintro e w7⟨rfl,ac⟩;have Y:=af (aj V ac);have O7:=af (O6.later ac (a0a _));clear ac V  O6;go_wp2_with fail;refine(CB _ (ae Y)).mono ?_;rintro e w8⟨rfl,ad⟩;have B:=af (aj Y ad);have O8:=af (O7.later ad (a0a _));clear ad Y  O7;have CP:=af (fun W (hb:Below w8.heap.size w8 W)=>dM a5 c5 l n HN m W ((bv HN O8).later hb) (by have:=ae bb;omega) a7 (fun i hi=>dK HZ i (by rw[ae HN];exact hi)) (c W (aj B hb)).1 (c W (aj B hb)).2.1 (c W (aj B hb)).2.2);rw[ae HP]at CP;rcases ae bc with⟨K,T3,h3⟩|⟨K,h3⟩
    . subst K;rw[h3]at u;clear h3;go_wp2_with fail;refine(u _ (ae B)).mono ?_;rintro e w9⟨rfl,D⟩;have Z:=af (aj B D);have R:=af (ae CP w9 D);clear D;go_wp2_with fail;refine R.mono ?_;rintro e w10⟨rfl,h⟩;have f:=af (aj Z h);clear h;go_wp2_with fail;refine(CN _ (ae f)).mono ?_;rintro e w11⟨⟨v,rfl,ho⟩,j⟩;have F:=af (aj f j);obtain⟨a11,bd,rfl,_,_⟩:=ho.formN a3;clear j ho;go_wp2;go_ret;exact⟨rfl,F⟩
    .
     have bl:¬ x.toList=y.toList:=fun e=>K (ck (dt.1 e));have bs:(x.toList == y.toList)=false:=by simp only[a0X,ne_eq];exact bl
     rw[h3]at u;clear h3 K;go_wp2_with fail;refine(u _ (ae B)).mono ?_;rintro e w9⟨rfl,D⟩;have Z:=af (aj B D);have R:=af (ae CP w9 D);clear D;go_wp2_with fail;refine R.mono ?_;rintro e w10⟨rfl,h⟩;have f:=af (aj Z h);clear h;go_wp2_with fail;refine(CN _ (ae f)).mono ?_;rintro e w11⟨⟨v,rfl,ho⟩,j⟩;have F:=af (aj f j);obtain⟨a11,bd,rfl,_,_⟩:=ho.formN a3;clear j ho;go_wp2;go_ret;exact⟨rfl,F⟩
   .
    have I:Hid (edR S (cH x y) = .tuple #[S,.int .i64 (cH x y l).1]):=lj (r:=(cH x y l).2) N rfl hk;obtain⟨k,hkk⟩:∃k,(cH x y l).1=k:=⟨_,rfl⟩;rw[hkk]at I hk;clear hkk N;rw[ae I]at Q T;clear I;go_wp2_with fail;refine(Q _ (ae d)).mono ?_;rintro e w3⟨rfl,o⟩;have g:=af (aj d o);clear o d;go_wp2_with fail;refine(T _).mono ?_;rintro e w4⟨rfl,s⟩;have A:=af (aj g s);clear s g;go_wp2;all_goals
     go_ret;exact⟨rfl,A⟩
 . go_enter func4,ntmps4;go_wp2;go_ret;exact⟨rfl,a0c _ _⟩
end Go.Proofs.YtfannoajibacnaaGreatDoor
