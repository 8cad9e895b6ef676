/- Of what the proof is made: 3 texts, one behind the other. -/
import Derived.Test.YtkdlcomfpffhhaaGreatDoorM8
import Derived.Test.YtkdlcomfpffhhaaGreatDoorM2
import Derived.Test.YtkdlcomfpffhhaaGreatDoorM9
import Derived.Test.YtkdlcomfpffhhaaGreatDoorM5
import Derived.Deep.RegionHeld3
set_option maxRecDepth 100000
set_option linter.unusedSimpArgs false
set_option linter.unusedVariables false
set_option maxHeartbeats 1600000
namespace Go.Proofs.YtkdlcomfpffhhaaGreatDoor
open Go.RowKit
variable {B n:Nat}{t:TypeId}{v:Value}{w w':World}
structure Grp where
 cnt:Int
 fst:Int
 syms:List Int
 val:Value
def aQ:List Grp->List Value
 | []=>[]
 | g :: l=>.int .i64 g.cnt :: .int .i64 g.fst :: g.val :: aQ l
theorem nd(l:List Grp):(aQ l).length=l.length*3:=by
 induction l with
 | nil=>rfl
 | cons p l ih=>simp only[aQ,a0J,ih];omega
theorem mj(l m:List Grp):aQ (l++m)=aQ l++aQ m:=by
 induction l with
 | nil=>rfl
 | cons p l ih=>simp[aQ,ih]
theorem zu(l:List Grp)(k:Nat):aQ (l.take k)=(aQ l).take (k*3):=by
 induction l generalizing k with
 | nil=>simp[aQ]
 | cons p l ih=>
  cases k with
  | zero=>simp[aQ]
  | succ k=>rw[show(k+1)*3=k*3+1+1+1 by omega];simp[aQ,ih]
theorem zt(l:List Grp)(k:Nat):aQ (l.drop k)=(aQ l).drop (k*3):=by
 induction l generalizing k with
 | nil=>simp[aQ]
 | cons p l ih=>
  cases k with
  | zero=>simp
  | succ k=>rw[show(k+1)*3=k*3+1+1+1 by omega];simp[aQ,ih]
def g0:Grp:=⟨0,0,[],.slice none 0 0⟩
theorem Ca(l:List Grp)(i:Nat)(h:i<l.length):(aQ l)[i*3]?=some (.int .i64 (l.getD i g0).cnt)/\(aQ l)[i*3+1]?=some (.int .i64 (l.getD i g0).fst)/\(aQ l)[i*3+2]?=some (l.getD i g0).val:=by
 induction l generalizing i with
 | nil=>simp at h
 | cons p l ih=>
  cases i with
  | zero=>simp[aQ]
  | succ i=>
   have:=ih i (by simpa using h);rw[show(i+1)*3=i*3+1+1+1 by omega];simpa[aQ]using this
def de(t:TypeId)(w:World)(base:Nat)(v:Value)(l:List Grp):Prop:=w.ownsRow base t 3 v l.length (aQ l)
def jb(w:World)(ob:Nat)(l:List Grp):Prop:=∀g∈l,ax w ob g.val g.syms
theorem de.form{base:Nat}{l:List Grp}(h:de t w base v l):∃a cap,v = .slice a l.length cap:=by
 rcases h.2 with⟨e,b⟩|⟨g,cap,_,e,_⟩
 . exact⟨none,0,by rw[e,b]⟩
 . exact⟨_,cap,e⟩
theorem de.formN{base:Nat}{l:List Grp}(b:l.length=n)(h:de t w base v l):∃a cap,v = .slice a n cap:=by
 subst b;exact h.form
theorem de.somes{base cap:Nat}{a:Option Addr}{l:List Grp}(h:de t w base (.slice a n cap) l)(d:0<l.length):∃g,a=some ⟨g,0,none⟩:=by
 rcases h.2 with⟨_,e⟩|⟨g,b,c,e,_⟩
 . omega
 . simp only[a0O]at e;exact⟨g,e.1⟩
theorem de.cap{base cap:Nat}{a:Option Addr}{l:List Grp}(f:l.length=n)(h:de t w base (.slice a n cap) l):n<=cap/\cap<=maxLen:=by
 rcases h.2 with⟨e,_⟩|⟨g,b,c,e,_,_,d,h2,_⟩
 . simp only[a0O]at e;unfold maxLen;omega
 . simp only[a0O]at e;omega
theorem de.at{base g cap:Nat}{l:List Grp}(c:l.length=n)(h:de t w base (.slice (some ⟨g,0,none⟩) n cap) l)(j:Nat)(b:j<n) :
  w.cell? ⟨g,j*3,none⟩=some (.int .i64 (l.getD j g0).cnt)/\w.cell? ⟨g,j*3+1,none⟩=some (.int .i64 (l.getD j g0).fst)/\w.cell? ⟨g,j*3+2,none⟩=some (l.getD j g0).val/\base<=g/\g<w.heap.size:=by
 subst c;have a:=Ca l j b;exact⟨(a02 h (j*3) (by omega)).trans a.1,(a02 h (j*3+1) (by omega)).trans a.2.1,(a02 h (j*3+2) (by omega)).trans a.2.2,a0p h g rfl⟩
theorem tL{base size:Nat}{e:TypeId}{xs:List Value}(h:w.ownsRow base e size v n xs)(hb:Below B w w')(f:w.heap.size<=B):w'.ownsRow base e size v n xs:=by
 refine⟨h.1,?_⟩;rcases h.2 with d|⟨g,cap,b,rfl,c,a,rest⟩
 . exact .inl d
 . refine .inr ⟨g,cap,b,rfl,c,?_,rest⟩;have i:=(Array.getElem?_eq_some_iff.1 a).1;rw[hb.block g (by omega)];exact a
theorem de.later{base:Nat}{l:List Grp}(h:de t w base v l)(hb:Below B w w')(a:w.heap.size<=B):de t w' base v l:=tL h hb a
theorem jb.later{ob:Nat}{l:List Grp}(h:jb w ob l)(hb:Below B w w')(a:w.heap.size<=B):jb w' ob l:=fun g b=>(h g b).later hb a
theorem te{ob:Nat}{l:List Grp}(h:jb w ob l):∀u∈aQ l,u.oneCell'=true:=by
 induction l with
 | nil=>intro u b;simp[aQ]at b
 | cons p l ih=>
  intro u b;simp only[aQ,a1h]at b;rcases b with rfl|rfl|rfl|b
  . rfl
  . rfl
  . obtain⟨a,c,e⟩:=(h p (by simp)).form;rw[e];rfl
  . exact ih (fun g d=>h g (by simp[d])) u b
theorem de.news{base g cap:Nat}{l:List Grp}(f:l.length=n)(h:de t w base (.slice (some ⟨g,0,none⟩) n cap) l)(i k o:Nat)(m:o=i*3)(e:i+k<=n) :
  ∀j u,(aQ ((l.drop i).take k))[j]?=some u->w.cell? ((⟨g,o,none⟩:Addr).add j)=some u:=by
 intro j u d;subst m f;have b:(⟨g,i*3,none⟩:Addr).add j=⟨g,i*3+j,none⟩:=by unfold Addr.add;split<;>simp_all
 have a:=(List.getElem?_eq_some_iff.1 d).1;rw[nd,a0t,a01]at a;have c:min k (l.length-i)=k:=by omega
 rw[c]at a;rw[b,a02 h (i*3+j) (by omega),←d,zu,zt,List.getElem?_take,a0e a,List.getElem?_drop]
end Go.Proofs.YtkdlcomfpffhhaaGreatDoor
namespace Go.Proofs.YtkdlcomfpffhhaaGreatDoor.Bkx
open Go.Proofs.YtkdlcomfpffhhaaGreatDoor
open Go.RowKit Corb
theorem wT(w:World)(vl vc vs:Value)(m:Nat->Nat)(t:TypeId):fe (w.alloc (.cells (aW vl vc vs m).toArray t)) w.heap.size vl vc vs m:=by
 refine fe.of_range ?_ (fun o=>ip w _ _ o) (by simp);intro j v a;rw[Nat.zero_add,cell_of_row _ _ _ _ t (0,0) (heap_alloc_new w _)];simpa using a
theorem l3Piece_any(a ac:Option Addr)(cap n m k:Nat)(l c:List Int)(w:World)(G:l.length=n)(x:c.length=n)(h:bn w a l)(d:bn w ac c)(E:k<n)(F:n<=300)(C:0<=l.getD k 0/\l.getD k 0<=15)(D:0<=c.getD k 0/\c.getD k 0<65536) :
  CD 276 #[.slice a n cap,.slice ac n m,.int .i64 (k:Int)] w (.agg #[.int .i64 (rv (l.getD k 0).toNat (c.getD k 0).toNat:Nat),.int .i64 (l.getD k 0)]):=by
 have u:(n:Int)<=300:=by omega
 have t:(k:Int)<(n:Int):=by omega
 obtain⟨g,o,rfl,s,i⟩:=h (by omega);obtain⟨g',o',rfl,f,b⟩:=d (by omega);have q:=i k (by omega);have r:=b k (by omega);obtain⟨y0,y1⟩:=C;obtain⟨z0,z1⟩:=D;clear i b h d;generalize l.getD k 0=y at *
 generalize c.getD k 0=z at *
 have hb:Below w.heap.size w (w.alloc (.cells #[.int .i64 0,.int .i64 0] 173)):=(Below.refl _ _).alloc (Nat.le_refl _) _;have y2:y<=16:=by omega
 go_enter Tryz.func276,Tryz.ntmps276;have j:∀A:Array Value,(w.alloc (.cells A 173)).drew.cell? ⟨g,o+k,none⟩=some (.int .i64 y)/\(w.alloc (.cells A 173)).drew.cell? ⟨g',o'+k,none⟩=some (.int .i64 z):=fun A=>by
  have hb:Below w.heap.size w (w.alloc (.cells A 173)):=(Below.refl _ _).alloc (Nat.le_refl _) _;exact⟨(hb.cell (p:=⟨g,o+k,none⟩) s).trans q,(hb.cell (p:=⟨g',o'+k,none⟩) f).trans r⟩
 go_wp2_with fail
 go_region_held3 (fun W=>W.cell? ⟨g,o+k,none⟩=some (.int .i64 y)/\W.cell? ⟨g',o'+k,none⟩=some (.int .i64 z)) (first|exact j _|assumption) (first|(go_at_call 285;refine(rR _ _ _ z0 z1 y0 y2).mono ?_;rintro e x1 ⟨rfl,B⟩;subst B))
 go_wp2;exact bodyPost_ret (v:=.agg #[.int .i64 (rv y.toNat z.toNat:Nat),.int .i64 y]) (by simp[results,Tryz.results276,go_sem]) rfl ⟨rfl,((Below.refl _ _).alloc (Nat.le_refl _) _).drew⟩
end Go.Proofs.YtkdlcomfpffhhaaGreatDoor.Bkx
namespace Go.Proofs.YtkdlcomfpffhhaaGreatDoor
open Go.RowKit Corb
theorem wT(w:World)(vl vc vs:Value)(m:Nat->Nat)(t:TypeId):fe (w.alloc (.cells (aW vl vc vs m).toArray t)) w.heap.size vl vc vs m:=by
 refine fe.of_range ?_ (fun o=>ip w _ _ o) (by simp);intro j v a;rw[a0B,a1t _ _ _ _ t (0,0) (heap_alloc_new w _)];simpa using a
theorem l3Piece_any(a ac:Option Addr)(cap n m k:Nat)(l c:List Int)(w:World)(F:l.length=n)(u:c.length=n)(h:bn w a l)(d:bn w ac c)(D:k<n)(E:n<=300)(B:0<=l.getD k 0/\l.getD k 0<=15)(C:0<=c.getD k 0/\c.getD k 0<65536) :
  CD 276 #[.slice a n cap,.slice ac n m,.int .i64 (k:Int)] w (.agg #[.int .i64 (rv (l.getD k 0).toNat (c.getD k 0).toNat:Nat),.int .i64 (l.getD k 0)]):=by
 have t:(k:Int)<(n:Int):=by omega
 obtain⟨g,o,rfl,s,i⟩:=h (by omega);obtain⟨g',o',rfl,f,b⟩:=d (by omega);have q:=i k (by omega);have r:=b k (by omega);obtain⟨y0,y1⟩:=B;obtain⟨z0,z1⟩:=C;clear i b h d;generalize l.getD k 0=y at *
 generalize c.getD k 0=z at *
 have hb:Below w.heap.size w (w.alloc (.cells #[.int .i64 0,.int .i64 0] 173)):=(a0c _ _).alloc (a0a _) _;have y2:y<=16:=by omega
 go_enter Tryz.func276,Tryz.ntmps276;have j:∀A:Array Value,(w.alloc (.cells A 173)).drew.cell? ⟨g,o+k,none⟩=some (.int .i64 y)/\(w.alloc (.cells A 173)).drew.cell? ⟨g',o'+k,none⟩=some (.int .i64 z):=fun A=>by
  have hb:Below w.heap.size w (w.alloc (.cells A 173)):=(a0c _ _).alloc (a0a _) _;exact⟨(hb.cell (p:=⟨g,o+k,none⟩) s).trans q,(hb.cell (p:=⟨g',o'+k,none⟩) f).trans r⟩
 go_wp2_with fail
 go_region_held3 (fun W=>W.cell? ⟨g,o+k,none⟩=some (.int .i64 y)/\W.cell? ⟨g',o'+k,none⟩=some (.int .i64 z)) (first|exact j _|assumption) (first|(go_at_call 285;refine(rR _ _ _ z0 z1 y0 y2).mono ?_;rintro e x1 ⟨rfl,x⟩;subst x))
 go_wp2;exact a0R (v:=.agg #[.int .i64 (rv y.toNat z.toNat:Nat),.int .i64 y]) (by simp[results,Tryz.results276,go_sem]) rfl ⟨rfl,((a0c _ _).alloc (a0a _) _).drew⟩
end Go.Proofs.YtkdlcomfpffhhaaGreatDoor
