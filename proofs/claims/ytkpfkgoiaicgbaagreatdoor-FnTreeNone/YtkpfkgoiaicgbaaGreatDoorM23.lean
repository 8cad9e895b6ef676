/- Of what the proof is made: 3 texts, one behind the other. -/
import Derived.Test.YtkpfkgoiaicgbaaGreatDoorM13
import Derived.Test.YtkpfkgoiaicgbaaGreatDoorM16
import Derived.Test.YtkpfkgoiaicgbaaGreatDoorM14
import Derived.Test.YtkpfkgoiaicgbaaGreatDoorM9
import Derived.Laws.Tables
import Derived.Test.YtkpfkgoiaicgbaaGreatDoorM5
import Derived.Test.YtkpfkgoiaicgbaaGreatDoorShelf
set_option linter.unusedSimpArgs false
set_option linter.unusedVariables false
set_option maxHeartbeats 800000
namespace Go.Proofs.YtkpfkgoiaicgbaaGreatDoor
open Go.RowKit Corb
theorem Ih{w:World}{base n cap:Nat}{e:TypeId}{a:Option Addr}{l:List Int}(hn:l.length=n)(h:w.ownsRow base e 1 (.slice a n cap) n (l.map (Value.int .i64))):bC w a l:=by
 subst hn;intro h0;rcases h.2 with⟨_,h1⟩|⟨g,cap',cur,e,hb,hg,hr⟩
 · omega
 · simp only[Value.slice.injEq]at e;obtain⟨rfl,_,rfl⟩:=e;refine⟨g,0,rfl,(Array.getElem?_eq_some_iff.1 hg).1,fun i hi=>?_⟩;have c1:=World.ownsRow.cellAt h i (by omega);rw[Nat.zero_add,c1];simp[List.getD,hi]
def dN(w:World)(base:Nat)(a:Option Addr)(l:List Int):Prop:=bC w a l/\(0<l.length->∀x,a=some x->base<=x.block/\∀cur fr,w.heap[x.block]?≠some (.cells cur 5 fr))
theorem dN.moved{w w':World}{base:Nat}{a:Option Addr}{l:List Int}(h:dN w base a l)(hs:w.heap.size<=w'.heap.size)(hk:∀g,base<=g->g<w.heap.size->(∀cur fr,w.heap[g]?≠some (.cells cur 5 fr))->w'.heap[g]?=w.heap[g]?):dN w' base a l:=by
 refine⟨fun h0=>?_,fun h0 x ex=>?_⟩
 · obtain⟨g,o,e,hg,hc⟩:=h.1 h0;obtain⟨h1,h2⟩:=h.2 h0 _ e;refine⟨g,o,e,by omega,fun i hi=>?_⟩;rw[←hc i hi];exact World.cell?_of_block (w:=w) (hk g h1 hg h2)
 ·
  obtain⟨g,o,e,hg,hc⟩:=h.1 h0;obtain⟨h1,h2⟩:=h.2 h0 _ ex;have:x=⟨g,o,none⟩:=by rw[ex]at e;exact Option.some.inj e
  subst this;exact⟨h1,fun cur fr=>by rw[hk g h1 hg h2];exact h2 cur fr⟩
theorem dN.later{w w':World}{base:Nat}{a:Option Addr}{l:List Int}(h:dN w base a l)(hb:Below w.heap.size w w'):dN w' base a l:=h.moved hb.size (fun g _ hg _=>hb.block g hg)
theorem dN.mono{w:World}{base b':Nat}{a:Option Addr}{l:List Int}(h:dN w base a l)(hb:b'<=base):dN w b' a l:=⟨h.1,fun h0 x e=>⟨Nat.le_trans hb (h.2 h0 x e).1,(h.2 h0 x e).2⟩⟩
theorem dN.touch{w w':World}{base b:Nat}{a:Option Addr}{l:List Int}(h:dN w base a l)(hs:w'.heap.size=w.heap.size)(hk:∀j,j≠b->w'.heap[j]?=w.heap[j]?)(hb:b<base):dN w' base a l:=h.moved (by omega) (fun g h1 _ _=>hk g (by omega))
theorem cw{w:World}{base n cap:Nat}{e:TypeId}{a:Option Addr}{l:List Int}(hn:l.length=n)(h:w.ownsRow base e 1 (.slice a n cap) n (l.map (Value.int .i64)))(he:e≠5:=by decide):dN w base a l:=by
 refine⟨Ih hn h,fun h0 x ex=>?_⟩;subst ex;refine⟨(World.ownsRow.lt h x.block rfl).1,fun cur fr=>?_⟩;rcases h.2 with⟨e',_⟩|⟨g,cap',cur',e',hbg,hg,_⟩
 · cases e'
 ·
  simp only[Value.slice.injEq,Option.some.injEq]at e';obtain⟨rfl,_⟩:=e';show w.heap[g]?≠_;rw[hg];intro e2;cases e2
  exact he rfl
def bm(w:World)(base:Nat)(l:List Int)(C:Array Value):Prop:=
 ∃a cap ac cc q sc,C=(aO (.slice a l.length cap) (.slice ac l.length cc) (.slice q (cF l 15).length sc) (fi l 15)).toArray/\dN w base a l/\dN w base ac (bB l 15).2/\dN w base q (cF l 15)
theorem bm.later{w w':World}{base:Nat}{l:List Int}{C:Array Value}(h:bm w base l C)(hb:Below w.heap.size w w'):bm w' base l C:=by
 obtain⟨a,cap,ac,cc,q,sc,e,h1,h2,h3⟩:=h;exact⟨a,cap,ac,cc,q,sc,e,h1.later hb,h2.later hb,h3.later hb⟩
theorem bm.mono{w:World}{base b':Nat}{l:List Int}{C:Array Value}(h:bm w base l C)(hb:b'<=base):bm w b' l C:=by
 obtain⟨a,cap,ac,cc,q,sc,e,h1,h2,h3⟩:=h;exact⟨a,cap,ac,cc,q,sc,e,h1.mono hb,h2.mono hb,h3.mono hb⟩
theorem bm.touch{w w':World}{base b:Nat}{l:List Int}{C:Array Value}(h:bm w base l C)(hs:w'.heap.size=w.heap.size)(hk:∀j,j≠b->w'.heap[j]?=w.heap[j]?)(hb:b<base):bm w' base l C:=by
 obtain⟨a,cap,ac,cc,q,sc,e,h1,h2,h3⟩:=h;exact⟨a,cap,ac,cc,q,sc,e,h1.touch hs hk hb,h2.touch hs hk hb,h3.touch hs hk hb⟩
theorem bm.size{w:World}{base:Nat}{l:List Int}{C:Array Value}(h:bm w base l C):C.size=19:=by
 obtain⟨a,cap,ac,cc,q,sc,e,_⟩:=h;rw[e];simp[bX]
theorem bm.one{w:World}{base:Nat}{l:List Int}{C:Array Value}(h:bm w base l C):C.all (·.oneCell')=true:=by
 obtain⟨a,cap,ac,cc,q,sc,e,_⟩:=h;rw[e];exact iH rfl rfl rfl
theorem pi(a:Option Addr)(cap n base:Nat)(l:List Int)(w:World)(hn:l.length=n)(h:dN w base a l)(hB:base<=w.heap.size)(hm:n<=300) :
  Calls Tryz.prog 130 #[.slice a n cap] w fun e w'=>(∃C,e = .returned (.agg C)/\bm w' base l C)/\Below w.heap.size w w':=by
 refine(Bkx.codeBook_any Bkx.bkL (.inl rfl) a cap n l w hn h.1 hm).mono ?_;rintro e w' ⟨vs,C,rfl,hC,h1,h2,hb⟩;obtain⟨q,sc,rfl⟩:=h2.form;subst hn;exact⟨⟨C,rfl,a,cap,_,_,q,sc,hC,h.later hb,(cw (dc l 15) (h1.own (dc l 15))).mono (by omega),(cw rfl h2).mono (by omega)⟩,hb⟩
theorem mq(k:Nat)(l:List Int)(C:Array Value)(base:Nat)(w:World)(hB:bm w base l C)(hk:k<l.length)(hm:l.length<=300) :
  Calls Tryz.prog 161 #[.agg C,.int .i64 (k:Int)] w fun e w'=>e = .returned (.agg #[.int .i64 (btI ((bB l 15).2.getD k 0) (l.getD k 0)),.int .i64 (l.getD k 0)])/\Below w.heap.size w w':=by
 obtain⟨a,cap,ac,cc,q,sc,e,h1,h2,h3⟩:=hB;exact Bkx.bookPut_any Bkx.bkL (.inl rfl) a ac cap l.length cc k _ _ C l (bB l 15).2 w e rfl (dc l 15) h1.1 h2.1 hk hm
theorem mV(a:Option Addr)(cap n base:Nat)(l:List Int)(w:World)(hn:l.length=n)(h:dN w base a l)(hB:base<=w.heap.size)(hm:n<=300) :
  Calls Tryz.prog 131 #[.slice a n cap] w fun e w'=>(∃C,e = .returned (.agg C)/\bm w' base l C)/\Below w.heap.size w w':=by
 refine(Bkx.codeBook_any Bkx.bkD (.inr (.inl rfl)) a cap n l w hn h.1 hm).mono ?_;rintro e w' ⟨vs,C,rfl,hC,h1,h2,hb⟩;obtain⟨q,sc,rfl⟩:=h2.form;subst hn;exact⟨⟨C,rfl,a,cap,_,_,q,sc,hC,h.later hb,(cw (dc l 15) (h1.own (dc l 15))).mono (by omega),(cw rfl h2).mono (by omega)⟩,hb⟩
theorem wg(k:Nat)(l:List Int)(C:Array Value)(base:Nat)(w:World)(hB:bm w base l C)(hk:k<l.length)(hm:l.length<=300) :
  Calls Tryz.prog 188 #[.agg C,.int .i64 (k:Int)] w fun e w'=>e = .returned (.agg #[.int .i64 (btI ((bB l 15).2.getD k 0) (l.getD k 0)),.int .i64 (l.getD k 0)])/\Below w.heap.size w w':=by
 obtain⟨a,cap,ac,cc,q,sc,e,h1,h2,h3⟩:=hB;exact Bkx.bookPut_any Bkx.bkD (.inr (.inl rfl)) a ac cap l.length cc k _ _ C l (bB l 15).2 w e rfl (dc l 15) h1.1 h2.1 hk hm
def cY(w:World)(base:Nat)(L D:List Int)(C:Array Value):Prop:=∃C1 C2,C=C1++C2/\bm w base L C1/\bm w base D C2
theorem cY.later{w w':World}{base:Nat}{L D:List Int}{C:Array Value}(h:cY w base L D C)(hb:Below w.heap.size w w'):cY w' base L D C:=by
 obtain⟨C1,C2,e,h1,h2⟩:=h;exact⟨C1,C2,e,h1.later hb,h2.later hb⟩
theorem cY.size{w:World}{base:Nat}{L D:List Int}{C:Array Value}(h:cY w base L D C):C.size=38:=by
 obtain⟨C1,C2,rfl,h1,h2⟩:=h;rw[Array.size_append,h1.size,h2.size]
theorem cY.one{w:World}{base:Nat}{L D:List Int}{C:Array Value}(h:cY w base L D C):C.all (·.oneCell')=true:=by
 obtain⟨C1,C2,rfl,h1,h2⟩:=h;rw[Array.all_append,h1.one,h2.one];rfl
theorem Tryz.infoBooks:(Tryz.prog.info? 191).map (·.size)=some 38:=by kernel_rfl
theorem Tryz.infoLitB:(Tryz.prog.info? 186).map (·.size)=some 19:=by kernel_rfl
theorem Tryz.infoDistB:(Tryz.prog.info? 189).map (·.size)=some 19:=by kernel_rfl
theorem fU{w:World}{b:Nat}{C1 C2:Array Value}{t:TypeId}(h:w.heap[b]?=some (Obj.cells (C1++C2) t))(h1:C1.size=19):w.rangeAt b 0 C1.toList/\w.rangeAt b 19 C2.toList:=by
 refine⟨fun j v hv=>?_,fun j v hv=>?_⟩
 ·
  have hj:j<C1.size:=by have:=(List.getElem?_eq_some_iff.1 hv).1;simpa using this
  rw[Nat.zero_add];simp only[World.cell?,h];rw[Array.getElem?_append_left hj];simpa using hv
 · simp only[World.cell?,h];rw[Array.getElem?_append_right (by omega),h1,Nat.add_sub_cancel_left];simpa using hv
theorem Tryz.builtBooks(l1 c1 s1 l2 c2 s2:Value)(m1 m2:Nat->Nat):Tryz.prog.built 191 [(0,.agg (aO l1 c1 s1 m1).toArray),(1,.agg (aO l2 c2 s2 m2).toArray)]=some ((aO l1 c1 s1 m1).toArray++(aO l2 c2 s2 m2).toArray):=by kernel_rfl
theorem jX{w:World}{base:Nat}{L D:List Int}{C1 C2:Array Value}(h1:bm w base L C1)(h2:bm w base D C2):Tryz.prog.built 191 [(0,.agg C1),(1,.agg C2)]=some (C1++C2):=by
 obtain⟨_,_,_,_,_,_,rfl,_⟩:=h1;obtain⟨_,_,_,_,_,_,rfl,_⟩:=h2;exact Tryz.builtBooks _ _ _ _ _ _ _ _
theorem Di:dj 288=List.replicate 144 8++(List.replicate 112 9++(List.replicate 24 7++List.replicate 8 8)):=by decide +kernel
end Go.Proofs.YtkpfkgoiaicgbaaGreatDoor
namespace Go.Proofs.YtkpfkgoiaicgbaaGreatDoor
open Go.RowKit
def bE(a b:List UInt8):Bool:=a == b || (di b a || di a b)
theorem hH(a b:ByteArray)(w:World)(hb:(b.size:Int)<=1048576) :
  Calls Tryz.prog 38 #[.string a,.string b] w fun e w'=>e = .returned (.bool (di b.data.toList a.data.toList))/\w'=w:=by
 have HC:Hid (∀W,Calls Tryz.prog 64 #[.string a,.string (b++(⟨#[47]⟩:ByteArray))] W fun e w'=>e = .returned (.bool (di b.data.toList a.data.toList))/\w'=W):=by
  intro W;have h:=Tryz.strings_HasPrefix a (b++(⟨#[47]⟩:ByteArray)) W;have e:Lib.hasPrefix a.data.toList (b++(⟨#[47]⟩:ByteArray)).data.toList=di b.data.toList a.data.toList:=by
   unfold Lib.hasPrefix di
   congr 1
  rw[e]at h;exact h
 go_enter Tryz.func38,Tryz.ntmps38;go_wp2_with fail;refine(ae HC _).mono ?_;rintro e w1 ⟨rfl,hw⟩;rw[hw];clear hw;go_wp2;go_ret;exact⟨rfl,rfl⟩
theorem eq{a b:ByteArray} : a.toList=b.toList<->a.data.toList=b.data.toList:=by rw[Lib.toList_data,Lib.toList_data]
theorem kw(a b:ByteArray)(w:World)(ha:(a.size:Int)<=1048576)(hb:(b.size:Int)<=1048576) :
  Calls Tryz.prog 14 #[.string a,.string b] w fun e w'=>e = .returned (.bool (bE a.data.toList b.data.toList))/\w'=w:=by
 have C1:=af (fun W=>hH a b W hb);have C2:=af (fun W=>hH b a W ha);by_cases h:a.toList=b.toList
 ·
  have HU:Hid (bE a.data.toList b.data.toList=true):=by show _=_;simp[bE,eq.1 h]
  go_enter Tryz.func14,Tryz.ntmps14;go_wp2;go_ret;exact⟨ak (ae HU).symm,rfl⟩
 ·
  have h':(a.data.toList == b.data.toList)=false:=by simp only[beq_eq_false_iff_ne,ne_eq];exact fun e=>h (eq.2 e)
  have hB:(a.toList == b.toList)=false:=by simp only[beq_eq_false_iff_ne,ne_eq];exact h
  have HU:Hid (bE a.data.toList b.data.toList=(di b.data.toList a.data.toList || di a.data.toList b.data.toList)):=by show _=_;simp[bE,h']
  clear h';generalize di b.data.toList a.data.toList=u1 at *
  generalize di a.data.toList b.data.toList=u2 at *
  cases u1
  · go_enter Tryz.func14,Tryz.ntmps14;go_wp2_with fail;refine(ae C1 _).mono ?_;rintro e w1 ⟨rfl,hw⟩;rw[hw];clear hw;go_wp2_with fail;refine(ae C2 _).mono ?_;rintro e w2 ⟨rfl,hw⟩;rw[hw];clear hw;go_wp2;go_ret;exact⟨ak (by rw[ae HU];rfl),rfl⟩
  · go_enter Tryz.func14,Tryz.ntmps14;go_wp2_with fail;refine(ae C1 _).mono ?_;rintro e w1 ⟨rfl,hw⟩;rw[hw];clear hw;go_wp2;go_ret;exact⟨ak (by rw[ae HU];rfl),rfl⟩
structure En where
 n:ByteArray
 y:Int
 mo:Int
 d:Int
 h:Int
 mi:Int
 s:Int
 t:ByteArray
instance:Inhabited En:=⟨⟨ByteArray.empty,0,0,0,0,0,0,ByteArray.empty⟩⟩
def Lu(w:World)(g o:Nat)(e:En):Prop:=
 w.cell? ⟨g,o,none⟩=some (.string e.n)/\w.cell? ⟨g,o+1,none⟩=some (.int .i64 e.y)/\w.cell? ⟨g,o+2,none⟩=some (.int .i64 e.mo)/\w.cell? ⟨g,o+3,none⟩=some (.int .i64 e.d) /\
 w.cell? ⟨g,o+4,none⟩=some (.int .i64 e.h)/\w.cell? ⟨g,o+5,none⟩=some (.int .i64 e.mi)/\w.cell? ⟨g,o+6,none⟩=some (.int .i64 e.s)/\w.cell? ⟨g,o+7,none⟩=some (.string e.t)
def lZ(w:World)(a:Option Addr)(l:List En):Prop:=0<l.length->∃g o,a=some ⟨g,o,none⟩/\g<w.heap.size/\∀i,i<l.length->Lu w g (o+i*8) (l.getD i default)
theorem lZ.later{w w':World}{a:Option Addr}{l:List En}(h:lZ w a l)(hb:Below w.heap.size w w'):lZ w' a l:=by
 intro h0;obtain⟨g,o,e,hg,hc⟩:=h h0;refine⟨g,o,e,Nat.lt_of_lt_of_le hg hb.size,fun i hi=>?_⟩;obtain⟨c0,c1,c2,c3,c4,c5,c6,c7⟩:=hc i hi;exact⟨(hb.cell (p:=⟨g,o+i*8,none⟩) hg).trans c0,(hb.cell (p:=⟨g,o+i*8+1,none⟩) hg).trans c1,(hb.cell (p:=⟨g,o+i*8+2,none⟩) hg).trans c2,(hb.cell (p:=⟨g,o+i*8+3,none⟩) hg).trans c3,
  (hb.cell (p:=⟨g,o+i*8+4,none⟩) hg).trans c4,(hb.cell (p:=⟨g,o+i*8+5,none⟩) hg).trans c5,(hb.cell (p:=⟨g,o+i*8+6,none⟩) hg).trans c6,(hb.cell (p:=⟨g,o+i*8+7,none⟩) hg).trans c7⟩
def atN(l:List En)(x:ByteArray):Int:=match l.findIdx? (fun e=>e.n.data.toList == x.data.toList)with
 | some i=>(i:Int)
 | none=>-1
theorem JJ{l:List En}{x:ByteArray}{k:Nat}(hk:k<l.length)(h:∀j,j<k->¬ (l.getD j default).n.toList=x.toList)(e:(l.getD k default).n.toList=x.toList):atN l x=(k:Int):=by
 have:l.findIdx? (fun e=>e.n.data.toList == x.data.toList)=some k:=by
  rw[List.findIdx?_eq_some_iff_getElem];refine⟨hk,?_,fun j hj=>?_⟩
  · have:=eq.1 e;simp only[List.getD,List.getElem?_eq_getElem hk,Option.getD_some]at this;simpa using this
  ·
   have hj':j<l.length:=by omega
   have:=h j hj;simp only[List.getD,List.getElem?_eq_getElem hj',Option.getD_some]at this;simp only[beq_iff_eq];exact fun e=>this (eq.2 e)
 unfold atN;rw[this]
end Go.Proofs.YtkpfkgoiaicgbaaGreatDoor
