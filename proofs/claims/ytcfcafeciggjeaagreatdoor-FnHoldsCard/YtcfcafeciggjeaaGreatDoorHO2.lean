import Derived.Test.YtcfcafeciggjeaaGreatDoorHO1
import Derived.LaidHandle
import Derived.LaidLaws
import Derived.Stop.LaidErr
namespace Go.Proofs.YtcfcafeciggjeaaGreatDoor
set_option maxHeartbeats 400000
set_option linter.all false
set_option maxRecDepth 100000
open Go.ChangeShapes Go.WideShapes Go.ChangeAt Go.RowKit Go.Deep
variable {W:World}
namespace hoRow
def gp : List (String × DataW Unit) := [("unicode/utf8.acceptRanges", Rows.laid_unicode_utf8_acceptRanges), ("loop.example/s02132/impl.forms", Rows.laid_loop_example_s02132_impl_forms), ("unicode/utf8.first", Rows.laid_unicode_utf8_first)]
theorem et : Tryz.prog.globalNamed "errors.errorType" = some 1 := by kernel_rfl
theorem rt : (Tryz.prog.cutTypes.find? (·.1 == "internal/reflectlite.rtype")).map (·.2) = some 219 := by kernel_rfl
theorem Fj:((List.range 340).filter fun t=>Tryz.prog.rowNamed t [101,114,114,111,114])=[73]:=by kernel_rfl
theorem size:Tryz.prog.types.size=340:=by kernel_rfl
theorem parts {W: World} (h : laidMetH Tryz.prog Rows.fnHoldsRow.laid W) : laidMet Tryz.prog gp W ∧ handlesMet Tryz.prog [("errors.errorType", Rows.laid_errors_errorType)] W := h
theorem er (h:laidMetH Tryz.prog Rows.fnHoldsRow.laid W):W.cell? ⟨1,0,none⟩=some (.iface 219 (.agg #[.pointer (some ⟨5,73,none⟩)])):=by
 obtain ⟨name,u,ty,e1,e2,e3,e4,e5⟩:=(parts h).2 _ (List.mem_singleton.2 rfl);have en:name=[101,114,114,111,114]:=(Option.some.inj e1).symm;subst en;obtain rfl:=Option.some.inj (rt.symm.trans e2);have hm:ty∈(List.range 340).filter fun t=>Tryz.prog.rowNamed t [101,114,114,111,114]:=List.mem_filter.2 ⟨List.mem_range.2 (by rw [<-size];exact e3),e4⟩;rw [Fj] at hm;obtain rfl:=List.mem_singleton.1 hm;have hh:typeHandle Tryz.prog 73=.pointer (some ⟨5,73,none⟩):=by kernel_rfl
 rw [hh] at e5;simpa using World.var?_cell et e5 0
theorem qS (h:laidMet Tryz.prog gp W) (k:Nat) (hk:k<14) (se pa sq jo:Bool) (lo hi vs:Int)
  (hd0:∀ ds:List (DataW Unit),Rows.laid_loop_example_s02132_impl_forms=.agg ds->ds[k]?=some (.agg [.lit (.bool se),.lit (.bool pa),.lit (.I lo),.lit (.I hi),.lit (.I vs),.lit (.bool sq),.lit (.bool jo)])) :
  sR W 0 (k*7) se pa lo hi vs sq jo:=by
 have h2 : laidMet Tryz.prog (("loop.example/s02132/impl.forms", Rows.laid_loop_example_s02132_impl_forms) :: [("unicode/utf8.first", Rows.laid_unicode_utf8_first)]) W := laidMet.tail h;obtain ⟨ps,⟨g,t,cs,fuel,p,q,hg,ht,hv,hd,_,_⟩,_,_⟩:=h2;obtain rfl := Option.some.inj ((show Tryz.prog.globalNamed "loop.example/s02132/impl.forms" = some 0 by kernel_rfl).symm.trans hg);obtain rfl:=Option.some.inj ((show (Tryz.prog.globals[0]?).map (·.type)=some 102 by kernel_rfl).symm.trans ht);obtain ⟨xs,m,_,ex,Bo,hl,pL⟩:=DataW.trod_array Tryz.underlying102 hd;have hE:=pL k hk;rw [qX,aK (by omega)] at hE;have e3:=hd0 _ (Prod.mk.inj ex).1;rw [List.getElem?_map,aK (by omega:k<xs.length)] at e3;simp only [Option.map_some,Option.some.injEq] at e3;have Ce:=sE hE e3;have bG:∀ j v,[Value.bool se,.bool pa,.I lo,.I hi,.I vs,.bool sq,.bool jo][j]?=some v->j<7->W.cell? ⟨0,k*7+j,none⟩=some v:=fun j v hj hj7=>by rw [World.var?_cell hg hv (k*7+j),<-hj,<-Ce,List.getElem?_take,if_pos hj7,List.getElem?_drop];simp
 exact ⟨by simpa using bG 0 _ rfl (by omega),bG 1 _ rfl (by omega),bG 2 _ rfl (by omega),bG 3 _ rfl (by omega),bG 4 _ rfl (by omega),bG 5 _ rfl (by omega),bG 6 _ rfl (by omega)⟩
theorem tab (h:laidMet Tryz.prog gp W):Xu W:=by
 intro k h1 h2;rcases kinds h1 h2 with rfl | rfl | rfl | rfl | rfl | rfl | rfl | rfl | rfl | rfl | rfl | rfl | rfl<;>exact qS h _ (by omega) _ _ _ _ _ _ _ (fun ds qO=>by
  have e:=DataW.agg.inj qO;rw [<-e]
  rfl)
def Ef (w:World):World:=
 { w with heap:=w.heap.modify 1 fun
   | .cells _ t frozen=>.cells #[.iface 219 (.agg #[.pointer (some ⟨5,73,none⟩)])] t frozen
   | o=>o }
theorem tA (os:Os) (args:Array Value):laidMetH Tryz.prog Rows.fnHoldsRow.laid (((Ef (World.holding Tryz.prog os ⟨#[],#[],[]⟩)).layVars Tryz.prog gp).forCall (fun _ _=>0) ⟨#[],args,[]⟩).memory:=by
 refine laidMetH_of_parts ?_ (by kernel_rfl);have e1:(gp.filter fun x=>(gp.map (·.1)).contains x.1)=gp:=List.filter_eq_self.2 fun x hx=>List.contains_iff_mem.2 (List.mem_map.2 ⟨x,hx,rfl⟩);have e2:(gp.filter fun x=>!(gp.map (·.1)).contains x.1)=[]:=List.filter_eq_nil_iff.2 fun x hx=>by rw [List.contains_iff_mem.2 (List.mem_map.2 ⟨x,hx,rfl⟩)];simp
 have h:laidMet Tryz.prog gp _:=laidMet_layVars (w0:=Ef (World.holding Tryz.prog os ⟨#[],#[],[]⟩)) (gp.map (·.1)) [] (by rw [e1]) (by rw [e1];kernel_rfl) (by rw [e1];kernel_rfl) (by rw [e2];exact LaidIn.none);exact (show laidMet Tryz.prog gp _ from h.of_heap (by simp [World.memory,World.forCall,Input.heap]))
theorem vU (p:Option Addr) (c n:Nat) (w:World) (m0:n<=maxLen) (hl:1048576<n) :
  Calls Tryz.prog 4 #[.S p n c] w fun e w'=>e=.returned (.bool true)/\Bw w w':=by
 unfold maxLen at m0;have sv:=ja 1048576 n;go_enter Tryz.func4,Tryz.ntmps4;go_wp2;go_ret;exact ⟨rfl,Below.refl _ _⟩
theorem lifted (lK:∀ code:List Int,bM code->code.length<=1048576->∃ D O,BD D/\Cj O/\UG code D O) (os:Os) (started:os.Started) (H:Type) (enc:TypeId × Value->H) :
  ReturnsInHanded {} Tryz.checked os 4 .any (fun w args=>(Rows.fnHoldsSpec.pre enc Tryz.prog Tryz.f4 Rows.fnHoldsRow.domain false w args/\laidMetH Tryz.prog Rows.fnHoldsRow.laid w)/\sizedMet enc Tryz.prog Tryz.f4 (OpenSpec.ofChange Rows.fnHoldsSpec) false w args)
   (Rows.fnHoldsSpec.post enc Tryz.prog Tryz.f4 false true false false):=by
 refine uB (C:=Tryz.checked) (X:=fun w _=>laidMetH Tryz.prog Rows.fnHoldsRow.laid w) (fun _ _ _ hh h=>h.of_heap hh) own started (by kernel_rfl) Tryz.func4
  (ChangeSpec.witness_shaped (enc:=enc) (C:=Tryz.checked) (os:=os) (X:=fun w _=>laidMetH Tryz.prog Rows.fnHoldsRow.laid w) false ((Ef (World.holding Tryz.prog os ⟨#[],#[],[]⟩)).layVars Tryz.prog gp) #[.S none 0 0] 8 (World.layVars_os _ _ _)
   (World.shaped_of_ZipB (by kernel_rfl) (by kernel_rfl)) (by kernel_rfl) (by kernel_rfl) (by kernel_rfl)
   (tA os _)) ?_
 intro W base args ds gs before Dz hW hL Z9;have oE:∀ (j:Nat) t v,Tryz.f4.params[j]?=some t->args[j]?=some v->Value.okWide Tryz.prog W .any base t v:=Dz;have hW':=hW;obtain ⟨p,q,MW,Wt,rfl,My,aV⟩:=hW;have hA:DataW.TrodAll enc Tryz.prog W 0 (fun _=>true) true Tryz.f4.params.toList args.toList ds p:=MW;have hV : DataW.TrodVars enc Tryz.prog W (fun _ => true) ["loop.example/s02132/impl.forms"] gs q := Wt;rw [Tryz.params4] at hA oE;obtain ⟨v0,vs0,d0,ds0,p0,q0,ae5,rfl,rfl,h0,r0⟩:=trodAll_cons hA;obtain ⟨rfl,rfl,rfl⟩:=trodAll_nil r0;obtain rfl:args=#[v0]:=by cases args;simp_all
 obtain ⟨gg,tt,cs,fuel,dg,pg,rfl,hg,ht,aI4,hd,hq⟩:=trodVars_one hV;have k0:=h0;have lt0:∀ x∈p0,x.block<W.heap.size:=by obtain ⟨m,hm⟩:=k0;exact DataW.trod_lt m _ _ _ hm
 obtain ⟨a0,ln0,c0,rfl⟩:=okWide_slice Tryz.underlying22 (oE 0 22 v0 rfl rfl);obtain ⟨fu0,Wf⟩:=h0;obtain ⟨pb0,l0,cb0,Ns,e0,m0,Yh,RE⟩:=Rd.kU Wf;simp [Value.cells] at Ns;obtain ⟨rfl,rfl,rfl⟩:=Ns;clear MW Dz;have walk:Calls Tryz.prog 4 #[.S a0 l0.length c0] W fun e w'=>e=.returned (.bool true)/\Bw W w':=by by_cases hl:l0.length<=1048576;{exact ah7 (ae lK) l0 a0 c0 W (ae e0) (ae RE) Yh hl (ae ⟨uo Z9,tab (parts hL).1,er hL⟩)};{exact vU a0 c0 l0.length W m0 (by omega)}
 refine walk.mono fun r W' ⟨he,Pn⟩=>?_;subst he;exact ⟨_,rfl,_,_,_,[],_,_,hW',trodAll_mk1 (shut_bool Tryz.underlying4 _),(trodAll_cons_mk (Below.trod laidOut (by kernel_rfl) (of_decide_eq_true (by kernel_rfl)) k0 Pn lt0) trodAll_mk0),(Below.trodVars laidOut Pn (by kernel_rfl) hV),Pn.frame _,fun h=>by cases h⟩
theorem over (lK:∀ code:List Int,bM code->code.length<=1048576->∃ D O,BD D/\Cj O/\UG code D O):Rows.fnHoldsRow.holds Tryz.pinned (OpenSpec.ofChange Rows.fnHoldsSpec):=
 OpenClaim.holds_of_wide 4 Tryz.f4 rfl rfl rfl rfl rfl rfl rfl ⟨rfl,rfl,rfl,rfl,rfl⟩ rfl rfl rfl rfl rfl (by kernel_rfl) Tryz.func4 (by kernel_rfl)
  (of_decide_eq_true (by kernel_rfl)) (by unfold Func.isWrapper;first | (rw [if_pos (by decide +kernel)];kernel_rfl) | (rw [if_neg (by decide +kernel)];exact ⟨rfl,rfl⟩))
  (fun os started H enc _=>lifted lK os started H enc)
end hoRow
end Go.Proofs.YtcfcafeciggjeaaGreatDoor
