/- A file, read as data. -/
import Derived.Test.YtchidddpplangaaGreatDoorM4
import Derived.Deep.Strs
import Derived.ShutString
set_option linter.unusedSimpArgs false
set_option linter.unusedVariables false
namespace Go.Proofs.YtchidddpplangaaGreatDoor
open Go.Proofs.Tryz
open Go.ChangeShapes Go.WideShapes Go.ChangeAt Go.RowKit
open Go.ChangeMaps (open_string shut_string)
theorem ES(cs:Array Value)(h:cs.size=8):∃c0 c1 c2 c3 c4 c5 c6 c7,cs=#[c0,c1,c2,c3,c4,c5,c6,c7]:=by
 obtain⟨l⟩:=cs
 match l,h with
 | [c0,c1,c2,c3,c4,c5,c6,c7],_=>exact⟨c0,c1,c2,c3,c4,c5,c6,c7,rfl⟩
theorem Ca{H:Type}{enc:TypeId×Value->H}{w:World}{base:Nat}{spare:Nat->Bool}{held:Bool}{fuel:Nat}{c0 c1 c2 c3 c4 a b c:Value}{x:DataW H×List MemPlace}
  (h:DataW.trod enc prog w base spare held fuel 25 [c0,c1,c2,c3,c4,a,b,c]=some x) :
  ∃(e0 e1:ByteArray) (a0 a1 a2 a3 a4 a5:Int),(c0 = .string e0/\c1 = .int .i64 a0/\c2 = .int .i64 a1/\c3 = .int .i64 a2/\c4 = .int .i64 a3/\a = .int .i64 a4/\b = .int .i64 a5/\c = .string e1) /\
   ((e0.size<=maxLen/\e1.size<=maxLen)/\((Lit.int .i64 a0).wf=true/\(Lit.int .i64 a1).wf=true/\(Lit.int .i64 a2).wf=true/\(Lit.int .i64 a3).wf=true/\(Lit.int .i64 a4).wf=true/\(Lit.int .i64 a5).wf=true)) /\
   x=(.agg [.lit (.string e0.data.toList),.agg [.lit (.int .i64 a0),.lit (.int .i64 a1),.lit (.int .i64 a2),.lit (.int .i64 a3),.lit (.int .i64 a4),.lit (.int .i64 a5)],.lit (.string e1.data.toList)],[]):=by
 have f:prog.cellsOf 9=1:=by kernel_rfl
 have g:prog.cellsOf 23=6:=by kernel_rfl
 obtain⟨y0,y1,y2,k,rfl,_,g0,g1,g2⟩:=Go.Deep.trod_struct3 underlying25 h;simp only[f,g,List.drop,List.take]at g0 g1 g2;obtain⟨e0,d,rfl,k0⟩:=DataW.trod_string a1J g0;obtain⟨e1,e,rfl,i⟩:=DataW.trod_string a1J g2;simp only[List.cons.injEq,a0O]at d e;obtain⟨a0,a1,a2,a3,a4,a5,⟨rfl,rfl,rfl,rfl,rfl,rfl⟩,j,rfl⟩:=Dr (underlying23.trans underlying29.symm) g1;exact⟨e0,e1,a0,a1,a2,a3,a4,a5,⟨d,rfl,rfl,rfl,rfl,rfl,rfl,e⟩,⟨⟨k0,i⟩,j⟩,by simp⟩
theorem IX{H:Type}{enc:TypeId×Value->H}{w:World}{base:Nat}{spare:Nat->Bool}{held:Bool}{e0 e1:ByteArray}{a0 a1 a2 a3 a4 a5:Int}
  (e:(e0.size<=maxLen/\e1.size<=maxLen)/\((Lit.int .i64 a0).wf=true/\(Lit.int .i64 a1).wf=true/\(Lit.int .i64 a2).wf=true/\(Lit.int .i64 a3).wf=true/\(Lit.int .i64 a4).wf=true/\(Lit.int .i64 a5).wf=true)) :
  DataW.trod enc prog w base spare held 4 25 [.string e0,.int .i64 a0,.int .i64 a1,.int .i64 a2,.int .i64 a3,.int .i64 a4,.int .i64 a5,.string e1]=some (.agg [.lit (.string e0.data.toList),.agg [.lit (.int .i64 a0),.lit (.int .i64 a1),.lit (.int .i64 a2),.lit (.int .i64 a3),.lit (.int .i64 a4),.lit (.int .i64 a5)],.lit (.string e1.data.toList)],[]):=by
 have a:prog.cellsOf 9=1:=by kernel_rfl
 have b:prog.cellsOf 23=6:=by kernel_rfl
 have c:prog.cellsOf 25=8:=by kernel_rfl
 obtain⟨⟨k0,d⟩,f⟩:=e;have s0:DataW.trod enc prog w base spare held 3 9 [.string e0]=some (.lit (.string e0.data.toList),[]):=by simp[DataW.trod,a1J,k0]
 have s1:DataW.trod enc prog w base spare held 3 9 [.string e1]=some (.lit (.string e1.data.toList),[]):=by simp[DataW.trod,a1J,d]
 have st:=KA (enc:=enc) (w:=w) (base:=base) (spare:=spare) (held:=held) 1 (underlying23.trans underlying29.symm) b f;have:=Go.Deep.trod_struct3_mk (enc:=enc) (w:=w) (base:=base) (spare:=spare) (held:=held) (n:=3) (cs:=[.string e0,.int .i64 a0,.int .i64 a1,.int .i64 a2,.int .i64 a3,.int .i64 a4,.int .i64 a5,.string e1]) underlying25 (by simp[c]) (by simpa[a]using s0) (by simpa[b]using st) (by simpa[a]using s1);simpa using this
end Go.Proofs.YtchidddpplangaaGreatDoor
