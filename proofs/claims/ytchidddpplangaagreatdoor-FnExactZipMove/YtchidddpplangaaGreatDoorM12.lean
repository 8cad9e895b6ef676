/- Of what the proof is made: 3 texts, one behind the other. -/
import Derived.Test.YtchidddpplangaaGreatDoorM9
import Derived.Test.YtchidddpplangaaGreatDoorM2
import Derived.Test.YtchidddpplangaaGreatDoorM10
import Derived.Test.YtchidddpplangaaGreatDoorM6
import Derived.Deep.RegionHeld3
set_option maxRecDepth 100000
set_option linter.unusedSimpArgs false
set_option linter.unusedVariables false
set_option maxHeartbeats 1600000
namespace Go.Proofs.YtchidddpplangaaGreatDoor
open Go.Proofs.Tryz
open Go.RowKit
variable {B n:Nat}{t:TypeId}{v:Value}{w w':World}
structure Grp where
 cnt:Int
 fst:Int
 syms:List Int
 val:Value
def aP:List Grp->List Value
 | []=>[]
 | g :: l=>.int .i64 g.cnt :: .int .i64 g.fst :: g.val :: aP l
theorem lA(l:List Grp):(aP l).length=l.length*3:=by
 induction l with
 | nil=>rfl
 | cons p l ih=>simp only[aP,a0D,ih];omega
theorem kg(l m:List Grp):aP (l++m)=aP l++aP m:=by
 induction l with
 | nil=>rfl
 | cons p l ih=>simp[aP,ih]
theorem BB(l:List Grp)(k:Nat):aP (l.take k)=(aP l).take (k*3):=by
 induction l generalizing k with
 | nil=>simp[aP]
 | cons p l ih=>
  cases k with
  | zero=>simp[aP]
  | succ k=>rw[show(k+1)*3=k*3+1+1+1 by omega];simp[aP,ih]
theorem BA(l:List Grp)(k:Nat):aP (l.drop k)=(aP l).drop (k*3):=by
 induction l generalizing k with
 | nil=>simp[aP]
 | cons p l ih=>
  cases k with
  | zero=>simp
  | succ k=>rw[show(k+1)*3=k*3+1+1+1 by omega];simp[aP,ih]
def g0:Grp:=⟨0,0,[],.slice none 0 0⟩
theorem Eh(l:List Grp)(i:Nat)(h:i<l.length):(aP l)[i*3]?=some (.int .i64 (l.getD i g0).cnt)/\(aP l)[i*3+1]?=some (.int .i64 (l.getD i g0).fst)/\(aP l)[i*3+2]?=some (l.getD i g0).val:=by
 induction l generalizing i with
 | nil=>simp at h
 | cons p l ih=>
  cases i with
  | zero=>simp[aP]
  | succ i=>
   have:=ih i (by simpa using h);rw[show(i+1)*3=i*3+1+1+1 by omega];simpa[aP]using this
def cF(t:TypeId)(w:World)(base:Nat)(v:Value)(l:List Grp):Prop:=w.ownsRow base t 3 v l.length (aP l)
def dM(w:World)(ob:Nat)(l:List Grp):Prop:=∀g∈l,am w ob g.val g.syms
theorem cF.form{base:Nat}{l:List Grp}(h:cF t w base v l):∃a cap,v = .slice a l.length cap:=by
 rcases h.2 with⟨e,b⟩|⟨g,cap,_,e,_⟩
 . exact⟨none,0,by rw[e,b]⟩
 . exact⟨_,cap,e⟩
theorem cF.formN{base:Nat}{l:List Grp}(b:l.length=n)(h:cF t w base v l):∃a cap,v = .slice a n cap:=by
 subst b;exact h.form
theorem cF.somes{base cap:Nat}{a:Option Addr}{l:List Grp}(h:cF t w base (.slice a n cap) l)(d:0<l.length):∃g,a=some ⟨g,0,none⟩:=by
 rcases h.2 with⟨_,e⟩|⟨g,b,c,e,_⟩
 . omega
 . simp only[a0J]at e;exact⟨g,e.1⟩
theorem cF.cap{base cap:Nat}{a:Option Addr}{l:List Grp}(f:l.length=n)(h:cF t w base (.slice a n cap) l):n<=cap/\cap<=maxLen:=by
 rcases h.2 with⟨e,_⟩|⟨g,b,c,e,_,_,d,h2,_⟩
 . simp only[a0J]at e;unfold maxLen;omega
 . simp only[a0J]at e;omega
theorem cF.at{base g cap:Nat}{l:List Grp}(c:l.length=n)(h:cF t w base (.slice (some ⟨g,0,none⟩) n cap) l)(j:Nat)(b:j<n) :
  w.cell? ⟨g,j*3,none⟩=some (.int .i64 (l.getD j g0).cnt)/\w.cell? ⟨g,j*3+1,none⟩=some (.int .i64 (l.getD j g0).fst)/\w.cell? ⟨g,j*3+2,none⟩=some (l.getD j g0).val/\base<=g/\g<w.heap.size:=by
 subst c;have a:=Eh l j b;exact⟨(a09 h (j*3) (by omega)).trans a.1,(a09 h (j*3+1) (by omega)).trans a.2.1,(a09 h (j*3+2) (by omega)).trans a.2.2,a0y h g rfl⟩
theorem vv{base size:Nat}{e:TypeId}{xs:List Value}(h:w.ownsRow base e size v n xs)(hb:Below B w w')(f:w.heap.size<=B):w'.ownsRow base e size v n xs:=by
 refine⟨h.1,?_⟩;rcases h.2 with d|⟨g,cap,b,rfl,c,a,rest⟩
 . exact .inl d
 . refine .inr ⟨g,cap,b,rfl,c,?_,rest⟩;have i:=(Array.getElem?_eq_some_iff.1 a).1;rw[hb.block g (by omega)];exact a
theorem cF.later{base:Nat}{l:List Grp}(h:cF t w base v l)(hb:Below B w w')(a:w.heap.size<=B):cF t w' base v l:=vv h hb a
theorem dM.later{ob:Nat}{l:List Grp}(h:dM w ob l)(hb:Below B w w')(a:w.heap.size<=B):dM w' ob l:=fun g b=>(h g b).later hb a
theorem uT{ob:Nat}{l:List Grp}(h:dM w ob l):∀u∈aP l,u.oneCell'=true:=by
 induction l with
 | nil=>intro u b;simp[aP]at b
 | cons p l ih=>
  intro u b;simp only[aP,a0U]at b;rcases b with rfl|rfl|rfl|b
  . rfl
  . rfl
  . obtain⟨a,c,e⟩:=(h p (by simp)).form;rw[e];rfl
  . exact ih (fun g d=>h g (by simp[d])) u b
theorem cF.news{base g cap:Nat}{l:List Grp}(f:l.length=n)(h:cF t w base (.slice (some ⟨g,0,none⟩) n cap) l)(i k o:Nat)(m:o=i*3)(e:i+k<=n) :
  ∀j u,(aP ((l.drop i).take k))[j]?=some u->w.cell? ((⟨g,o,none⟩:Addr).add j)=some u:=by
 intro j u d;subst m f;have b:(⟨g,i*3,none⟩:Addr).add j=⟨g,i*3+j,none⟩:=by unfold Addr.add;split<;>simp_all
 have a:=(List.getElem?_eq_some_iff.1 d).1;rw[lA,a0s,a04]at a;have c:min k (l.length-i)=k:=by omega
 rw[c]at a;rw[b,a09 h (i*3+j) (by omega),←d,BB,BA,List.getElem?_take,a0e a,List.getElem?_drop]
end Go.Proofs.YtchidddpplangaaGreatDoor
namespace Go.Proofs.YtchidddpplangaaGreatDoor.Bkx
open Go.Proofs.Tryz
open Go.Proofs.YtchidddpplangaaGreatDoor
open Go.RowKit Corb
theorem yU(w:World)(vl vc vs:Value)(m:Nat->Nat)(t:TypeId):fS (w.alloc (.cells (bf vl vc vs m).toArray t)) w.heap.size vl vc vs m:=by
 refine fS.of_range ?_ (fun o=>jq w _ _ o) (by simp);intro j v a;rw[Nat.zero_add,cell_of_row _ _ _ _ t (0,0) (heap_alloc_new w _)];simpa using a
theorem bookPut_any(B:BkI)(A:Bks B)(a ac:Option Addr)(cap n u k:Nat)(vs:Value)(m:Nat->Nat)(C:Array Value)(l c:List Int)(w:World)(s:C=(bf (.slice a n cap) (.slice ac n u) vs m).toArray)(O:l.length=n)(G:c.length=n)(h:aZ w a l)(i:aZ w ac c)(M:k<n)(N:n<=300) :
  Calls prog B.p #[.agg C,.int .i64 (k:Int)] w fun e w'=>e = .returned (.agg #[.int .i64 (btI (c.getD k 0) (l.getD k 0)),.int .i64 (l.getD k 0)])/\Below w.heap.size w w':=by
 have e0:C[0]?=some (.slice a n cap):=by subst s;rfl
 have e1:C[1]?=some (.slice ac n u):=by subst s;rfl
 have F:(n:Int)<=300:=by omega
 have E:(k:Int)<(n:Int):=by omega
 clear s;obtain⟨g,o,rfl,L,x⟩:=h (by omega);obtain⟨g',o',rfl,D,f⟩:=i (by omega);have J:=x k (by omega);have K:=f k (by omega);have hb:Below w.heap.size w ((w.alloc (.cells C B.T)).alloc (.cells #[.int .i64 0,.int .i64 0] 185)):=((Below.refl _ _).alloc (Nat.le_refl _) _).alloc (by simp) _;have j:((w.alloc (.cells C B.T)).alloc (.cells #[.int .i64 0,.int .i64 0] 185)).cell? ⟨w.heap.size+1,0,none⟩=some (.int .i64 0):=by
  have:=cell_of_row ((w.alloc (.cells C B.T)).alloc (.cells #[.int .i64 0,.int .i64 0] 185)) (w.heap.size+1) 0 #[.int .i64 0,.int .i64 0] 185 (0,0) (heap_alloc2_new w _ _);rw[this];rfl
 have q:((w.alloc (.cells C B.T)).alloc (.cells #[.int .i64 0,.int .i64 0] 185)).cell? ⟨w.heap.size+1,1,none⟩=some (.int .i64 0):=by
  have:=cell_of_row ((w.alloc (.cells C B.T)).alloc (.cells #[.int .i64 0,.int .i64 0] 185)) (w.heap.size+1) 1 #[.int .i64 0,.int .i64 0] 185 (0,0) (heap_alloc2_new w _ _);rw[this];rfl
 have b:((w.alloc (.cells C B.T)).alloc (.cells #[.int .i64 0,.int .i64 0] 185)).heap.size=w.heap.size+2:=by simp
 have r:=ae (And.intro j (And.intro q (And.intro b hb)));clear x f h i j q b hb;generalize l.getD k 0=y at *
 generalize c.getD k 0=z at *
 rcases A with rfl|rfl|rfl;all_goals
  simp only[bkL,bkD,bkN]at r ⊢
  (first|go_enter func184,ntmps184|go_enter func214,ntmps214|go_enter func195,ntmps195)
  go_wp2_with fail;refine(ql _ _ _).mono ?_;rintro e x1 ⟨rfl,d⟩;obtain⟨j,q,b,hb⟩:=ab r;have H:=(d.cell (p:=⟨w.heap.size+1,0,none⟩) (by rw[b];exact Nat.lt_succ_self _)).trans j;have I:=(d.cell (p:=⟨w.heap.size+1,1,none⟩) (by rw[b];exact Nat.lt_succ_self _)).trans q;have f0:=d.frozen (p:=⟨w.heap.size+1,0,none⟩) (by rw[b];exact Nat.lt_succ_self _);have f1:=d.frozen (p:=⟨w.heap.size+1,1,none⟩) (by rw[b];exact Nat.lt_succ_self _);have t:=hb.trans (d.mono hb.size);clear r j q hb d;go_wp2_with fail;exact bodyPost_ret (v:=.agg #[.int .i64 (btI z y),.int .i64 y]) (by simp[results,results184,results214,results195,go_sem,H,I]) rfl ⟨rfl,ah (ah t (Nat.le_succ _) _) (Nat.le_succ _) _⟩
theorem l3Piece_any(a ac:Option Addr)(cap n m k:Nat)(l c:List Int)(w:World)(G:l.length=n)(x:c.length=n)(h:aZ w a l)(d:aZ w ac c)(E:k<n)(F:n<=300)(C:0<=l.getD k 0/\l.getD k 0<=15)(D:0<=c.getD k 0/\c.getD k 0<65536) :
  Ds 206 #[.slice a n cap,.slice ac n m,.int .i64 (k:Int)] w (.agg #[.int .i64 (rv (l.getD k 0).toNat (c.getD k 0).toNat:Nat),.int .i64 (l.getD k 0)]):=by
 have u:(n:Int)<=300:=by omega
 have t:(k:Int)<(n:Int):=by omega
 obtain⟨g,o,rfl,s,i⟩:=h (by omega);obtain⟨g',o',rfl,f,b⟩:=d (by omega);have q:=i k (by omega);have r:=b k (by omega);obtain⟨y0,y1⟩:=C;obtain⟨z0,z1⟩:=D;clear i b h d;generalize l.getD k 0=y at *
 generalize c.getD k 0=z at *
 have hb:Below w.heap.size w (w.alloc (.cells #[.int .i64 0,.int .i64 0] 185)):=(Below.refl _ _).alloc (Nat.le_refl _) _;have y2:y<=16:=by omega
 go_enter func206,ntmps206;have j:∀A:Array Value,(w.alloc (.cells A 185)).drew.cell? ⟨g,o+k,none⟩=some (.int .i64 y)/\(w.alloc (.cells A 185)).drew.cell? ⟨g',o'+k,none⟩=some (.int .i64 z):=fun A=>by
  have hb:Below w.heap.size w (w.alloc (.cells A 185)):=(Below.refl _ _).alloc (Nat.le_refl _) _;exact⟨(hb.cell (p:=⟨g,o+k,none⟩) s).trans q,(hb.cell (p:=⟨g',o'+k,none⟩) f).trans r⟩
 go_wp2_with fail
 go_region_held3 (fun W=>W.cell? ⟨g,o+k,none⟩=some (.int .i64 y)/\W.cell? ⟨g',o'+k,none⟩=some (.int .i64 z)) (first|exact j _|assumption) (first|(go_at_call 225;refine(tN _ _ _ z0 z1 y0 y2).mono ?_;rintro e x1 ⟨rfl,B⟩;subst B))
 go_wp2;exact bodyPost_ret (v:=.agg #[.int .i64 (rv y.toNat z.toNat:Nat),.int .i64 y]) (by simp[results,results206,go_sem]) rfl ⟨rfl,((Below.refl _ _).alloc (Nat.le_refl _) _).drew⟩
end Go.Proofs.YtchidddpplangaaGreatDoor.Bkx
namespace Go.Proofs.YtchidddpplangaaGreatDoor
open Go.Proofs.Tryz
open Go.RowKit Corb
theorem yU(w:World)(vl vc vs:Value)(m:Nat->Nat)(t:TypeId):fS (w.alloc (.cells (bf vl vc vs m).toArray t)) w.heap.size vl vc vs m:=by
 refine fS.of_range ?_ (fun o=>jq w _ _ o) (by simp);intro j v a;rw[a0G,cell_of_row _ _ _ _ t (0,0) (heap_alloc_new w _)];simpa using a
theorem l3Piece_any(a ac:Option Addr)(cap n m k:Nat)(l c:List Int)(w:World)(F:l.length=n)(u:c.length=n)(h:aZ w a l)(d:aZ w ac c)(D:k<n)(E:n<=300)(B:0<=l.getD k 0/\l.getD k 0<=15)(C:0<=c.getD k 0/\c.getD k 0<65536) :
  Ds 206 #[.slice a n cap,.slice ac n m,.int .i64 (k:Int)] w (.agg #[.int .i64 (rv (l.getD k 0).toNat (c.getD k 0).toNat:Nat),.int .i64 (l.getD k 0)]):=by
 have t:(k:Int)<(n:Int):=by omega
 obtain⟨g,o,rfl,s,i⟩:=h (by omega);obtain⟨g',o',rfl,f,b⟩:=d (by omega);have q:=i k (by omega);have r:=b k (by omega);obtain⟨y0,y1⟩:=B;obtain⟨z0,z1⟩:=C;clear i b h d;generalize l.getD k 0=y at *
 generalize c.getD k 0=z at *
 have hb:Below w.heap.size w (w.alloc (.cells #[.int .i64 0,.int .i64 0] 185)):=(a0c _ _).alloc (a0a _) _;have y2:y<=16:=by omega
 go_enter func206,ntmps206;have j:∀A:Array Value,(w.alloc (.cells A 185)).drew.cell? ⟨g,o+k,none⟩=some (.int .i64 y)/\(w.alloc (.cells A 185)).drew.cell? ⟨g',o'+k,none⟩=some (.int .i64 z):=fun A=>by
  have hb:Below w.heap.size w (w.alloc (.cells A 185)):=(a0c _ _).alloc (a0a _) _;exact⟨(hb.cell (p:=⟨g,o+k,none⟩) s).trans q,(hb.cell (p:=⟨g',o'+k,none⟩) f).trans r⟩
 go_wp2_with fail
 go_region_held3 (fun W=>W.cell? ⟨g,o+k,none⟩=some (.int .i64 y)/\W.cell? ⟨g',o'+k,none⟩=some (.int .i64 z)) (first|exact j _|assumption) (first|(go_at_call 225;refine(tN _ _ _ z0 z1 y0 y2).mono ?_;rintro e x1 ⟨rfl,x⟩;subst x))
 go_wp2;exact a0F (v:=.agg #[.int .i64 (rv y.toNat z.toNat:Nat),.int .i64 y]) (by simp[results,results206,go_sem]) rfl ⟨rfl,((a0c _ _).alloc (a0a _) _).drew⟩
end Go.Proofs.YtchidddpplangaaGreatDoor
