import Derived.Test.YtkakbcaiplggiaaGreatDoorK16
import Derived.LaidHandle
import Derived.LaidLaws
import Derived.Stop.LaidErr
namespace Go.Proofs.YtkakbcaiplggiaaGreatDoor
set_option maxHeartbeats 6400000
set_option linter.all false
set_option maxRecDepth 100000
open Go.ChangeShapes Go.WideShapes Go.ChangeAt Go.RowKit Go.Proofs.Tryz
variable {b c c0 c1 c2 d:Nat}{C:Int}{W:World}{cs:Array Value}{v0 v1 v2:Value}
open Go.Deep
def US:Tryz.prog.cellsOf 24=2:=by kernel_rfl
def UT:Tryz.prog.cellsOf 26=6:=by kernel_rfl
def tp{H:Type}{enc:TypeId×Value->H}{w:World}{n:Nat}{c0 c1:Value}{x:DataW H×List MemPlace}(h:DataW.trod enc Tryz.prog w 0 (λ_=>true) true n 24 [c0,c1]=some x):∃(p:OA)(l:LI)(c:Nat)(s:Int),c0=.S p l.length c/\c1=.I s/\Rd w (.S p l.length c) l/\l.length<=maxLen/\aN l:=by
 obtain⟨y0,y1,m,hx,_,h0,h1⟩:=trod_struct2 Tryz.underlying24 h;simp[Ru,KT]at h0 h1;obtain⟨p,l,c,e,hr,hl,-,hB⟩:=Rd.Pw h0;obtain⟨s,e1,_,ws⟩:=VJ Tryz.underlying3 h1;simp at e e1;exact⟨p,l,c,s,e,e1,hr,hl,hB⟩
theorem bh7(h:cs.size=6):∃a b c d e f,cs=#[a,b,c,d,e,f]:=by
 obtain⟨l⟩:=cs;simp at h
 match l,h with
 |[a,b,c,d,e,f],_=>exact⟨a,b,c,d,e,f,rfl⟩
def No{H:Type}{enc:TypeId×Value->H}{w:World}{r:Reach}{b0:Nat}{v:Value}{d:DataW H}{ps:List MemPlace}(hv:Value.okWide Tryz.prog w r b0 26 v)(h:DataW.Trod enc Tryz.prog w 0 (λ_=>true) true 26 v d ps):∃(p0 p1 p2:OA)(l0 l1 l2:LI)(c0 c1 c2:Nat)(s0 s1 s2:Int),v=dt (.S p0 l0.length c0) s0 (.S p1 l1.length c1) s1 (.S p2 l2.length c2) s2∧
   Rd w (.S p0 l0.length c0) l0/\Rd w (.S p1 l1.length c1) l1/\Rd w (.S p2 l2.length c2) l2/\l0.length<=maxLen/\l1.length<=maxLen/\l2.length<=maxLen/\aN l0/\aN l1:=by
 obtain⟨cs,rfl,jI⟩:=okWide_struct Tryz.underlying26 hv;obtain⟨a,b,c,d,e,f,rfl⟩:=bh7 (jI.trans UT);obtain⟨fuel,hf⟩:=h;obtain⟨y0,y1,y2,m,hx,_,h0,h1,h2⟩:=trod_struct3 Tryz.underlying26 hf;simp[US,Value.cells]at h0 h1 h2;obtain⟨p0,l0,c0,s0,rfl,rfl,r0,m0,b0⟩:=tp h0;obtain⟨p1,l1,c1,s1,rfl,rfl,r1,m1,b1⟩:=tp h1;obtain⟨p2,l2,c2,s2,rfl,rfl,r2,m2,_⟩:=tp h2;exact⟨p0,p1,p2,l0,l1,l2,c0,c1,c2,s0,s1,s2,rfl,r0,r1,r2,m0,m1,m2,b0,b1⟩
namespace srRow
def ah3:List (String×DataW Unit):=[("unicode/utf8.acceptRanges",Rows.laid_unicode_utf8_acceptRanges),("loop.example/s02132/impl.forms",Rows.laid_loop_example_s02132_impl_forms),("unicode/utf8.first",Rows.laid_unicode_utf8_first)]
def UD(h:laidMet Tryz.prog ah3 W)(k:Nat)(hk:k<14)(se pa sq jo:Bool)(lo hi vs:Int)(hd0:∀ds:List (DataW Unit),Rows.laid_loop_example_s02132_impl_forms=.agg ds->ds[k]?=some (.agg [.lit (.bool se),.lit (.bool pa),.lit (.I lo),.lit (.I hi),.lit (.I vs),.lit (.bool sq),.lit (.bool jo)])):xw W 0 (k*7) se pa lo hi vs sq jo:=by
 have h2 : laidMet Tryz.prog (("loop.example/s02132/impl.forms",Rows.laid_loop_example_s02132_impl_forms)::[("unicode/utf8.first",Rows.laid_unicode_utf8_first)]) W:=laidMet.tail h;obtain⟨ps,⟨g,t,cs,fuel,p,q,hg,ht,hv,hd,_,_⟩,_,_⟩:=h2;obtain rfl:=DZ ((show Tryz.prog.globalNamed "loop.example/s02132/impl.forms" = some 0 by kernel_rfl).symm.trans hg);obtain rfl:=DZ ((show(Tryz.prog.globals[0]?).map (·.type)=some 252 by kernel_rfl).symm.trans ht);obtain⟨xs,m,_,ex,Su,hl,vd⟩:=DataW.trod_array Tryz.underlying252 hd;have hE:=vd k hk;rw[Io,bD ae]at hE;have e3:=hd0 _ (Prod.mk.inj ex).1;rw[nj,bD (by omega:k<xs.length)]at e3;simp only[Jg,kU]at e3;have hcs:=M8 hE e3;have cW:∀j v,[Value.bool se,.bool pa,.I lo,.I hi,.I vs,.bool sq,.bool jo][j]?=some v->j<7->W.cell? (Ad 0 (k*7+j))=some v:=λj v hj hj7=>by rw[World.var?_cell hg hv (k*7+j),<-hj,<-hcs,GH,bN hj7,Mq];simp
 exact⟨by simpa using cW 0 _ rfl ae,cW 1 _ rfl ae,cW 2 _ rfl ae,cW 3 _ rfl ae,cW 4 _ rfl ae,cW 5 _ rfl ae,cW 6 _ rfl ae⟩
def tab(h:laidMet Tryz.prog ah3 W):Om W:=by
 intro k h1 h2;rcases kinds h1 h2 with rfl|rfl|rfl|rfl|rfl|rfl|rfl|rfl|rfl|rfl|rfl|rfl|rfl<;>exact UD h _ ae _ _ _ _ _ _ _ (λds wD=>by
  have e:=DataW.agg.inj wD;rw[<-e]
  rfl)
def lifted(os:Os)(started:os.Started)(H:Type)(enc:TypeId×Value->H):ReturnsInHanded {} Tryz.checked os 3 .any (λw args=>(Rows.fnExactStartSpec.pre enc Tryz.prog Tryz.f3 Rows.fnExactStartRow.domain false w args/\laidMetH Tryz.prog Rows.fnExactStartRow.laid w)/\sizedMet enc Tryz.prog Tryz.f3 (OpenSpec.ofChange Rows.fnExactStartSpec) false w args)
   (Rows.fnExactStartSpec.post enc Tryz.prog Tryz.f3 false true false false):=by
 refine Q8 (C:=Tryz.checked) (X:=λw _=>laidMetH Tryz.prog Rows.fnExactStartRow.laid w) (λ_ _ _ hh h=>h.of_heap hh) own started bg Tryz.func3
  (ChangeSpec.witness_shaped (enc:=enc) (C:=Tryz.checked) (os:=os) (X:=λw _=>laidMetH Tryz.prog Rows.fnExactStartRow.laid w) false (World.laidAll Tryz.prog os Rows.fnExactStartRow.laid) #[.agg #[.S none 0 0,.I 0,.S none 0 0,.I 0,.S none 0 0,.I 0],.I 0,.I 0] 8 (World.laidAll_os _ _ _)
   (World.shaped_of_ZipB bg bg) bg bg bg
   (by rw[MakeChecks.laidMetH_plain _ _ _ bg];exact laidMet_laidAll _ bg bg)) ?_
 intro W base args ds gs before aP7 hW hL hsh;have Ec:∀(j:Nat)t v,Tryz.f3.params[j]?=some t->args[j]?=some v->Value.okWide Tryz.prog W .any base t v:=aP7;have hW':=hW;obtain⟨p,q,hA0,hV0,rfl,hfz,bj⟩:=hW;have hA:DataW.TrodAll enc Tryz.prog W 0 (λ_=>true) true Tryz.f3.params.toList args.toList ds p:=hA0;have hV : DataW.TrodVars enc Tryz.prog W (λ_=>true) ["loop.example/s02132/impl.forms"] gs q:=hV0;rw[Tryz.params3]at hA Ec;obtain⟨v0,vs0,d0,ds0,p0,q0,cZ7,rfl,rfl,h0,r0⟩:=ac3 hA;obtain⟨v1,vs1,d1,ds1,p1,q1,rfl,rfl,rfl,h1,r1⟩:=ac3 r0;obtain⟨v2,vs2,d2,ds2,p2,q2,rfl,rfl,rfl,h2,r2⟩:=ac3 r1;obtain⟨rfl,rfl,rfl⟩:=trodAll_nil r2;obtain rfl:args=#[v0,v1,v2]:=by cases args;simp_all
 obtain⟨gg,tt,cs,fuel,dg,pg,rfl,hg,ht,dD6,hd,hq⟩:=trodVars_one hV;have k0:=h0;have lt0:∀x∈p0,x.block<W.heap.size:=by obtain⟨m,hm⟩:=k0;exact DataW.trod_lt m _ _ _ hm
 obtain⟨a0,a1,a2,l0,l1,l2,c0,c1,c2,s0,s1,s2,rfl,e0,e1,e2,m0,m1,m2,y0,y1⟩:=No (Ec 0 26 v0 rfl rfl) h0;obtain⟨k,rfl,rfl,rfl,wk⟩:=open_int Tryz.underlying3 (Ec 1 3 v1 rfl rfl) h1;obtain⟨st,rfl,rfl,rfl,ws⟩:=open_int Tryz.underlying3 (Ec 2 3 v2 rfl rfl) h2;clear hA0 aP7;have hM:laidMet Tryz.prog ah3 W:=by have h:=hL;rw[MakeChecks.laidMetH_plain _ _ _ bg]at h;exact h
 refine(ah2 a0 a1 a2 c0 c1 c2 s0 s1 s2 k st l0 l1 l2 W e0 e1 e2 m0 m1 m2 y0 y1 (PK hsh) (tab hM)).mono λr W'⟨he,SI⟩=>?_;subst he;exact⟨_,rfl,_,_,_,[],_,_,hW',trodAll_mk1 (shut_bool Tryz.underlying4 _),(trodAll_cons_mk (Below.trod laidOut bg (Qe bg) k0 SI lt0) (trodAll_cons_mk (shut_int Tryz.underlying3 wk) (trodAll_cons_mk (shut_int Tryz.underlying3 ws) trodAll_mk0))),(Below.trodVars laidOut SI bg hV),SI.frame _,λh=>by cases h⟩
def over:Rows.fnExactStartRow.holds Tryz.pinned (OpenSpec.ofChange Rows.fnExactStartSpec):=
 OpenClaim.holds_of_wide 3 Tryz.f3 rfl rfl rfl rfl rfl rfl rfl ⟨rfl,rfl,rfl,rfl,rfl⟩ rfl rfl rfl rfl rfl bg Tryz.func3 bg
  (Qe bg) (by unfold Func.isWrapper;first|(rw[bN (by decide +kernel)];kernel_rfl)|(rw[bG (by decide +kernel)];exact⟨rfl,rfl⟩))
  (λos started H enc _=>lifted os started H enc)
end srRow
end Go.Proofs.YtkakbcaiplggiaaGreatDoor
