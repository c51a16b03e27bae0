/- The library contracts that the walks call, laid over this dump. -/
import Derived.Test.YtjhbbdpfkccohaaGreatDoorA0
import Derived.Shelf.Strings.OnBuilder
import Derived.Shelf.Small.Strs
import Derived.Shelf.Small.Wraps
import Derived.Shelf.Utf8.RuneCount
import Derived.Shelf.Strconv.Itoa4
import Derived.Shelf.Strconv.ErrVarParseInt
import Derived.Shelf.Unicode.Decode
import Derived.Shelf.Strings.RuneCount
import Derived.Shelf.Unicode.DecodeAny
import Derived.Shelf.Slices.Clone
import Derived.Shelf.Slices.SearchI
import Derived.Shelf.SlicesE.Clone
import Derived.Test.YtjhbbdpfkccohaaGreatDoorProg
import Derived.Shelf.SlSortCmp.NoneTotal
set_option linter.all false
set_option maxRecDepth 100000
namespace Go.Proofs
open _root_.Go.Proofs.Tryz
open Go.Shelf
def laysC174_ren:Go.Shelf.Ren:=⟨fun|174=>243|247=>280|245=>281|287=>299|279=>300|280=>301|281=>302|282=>303|321=>312|322=>313|316=>51|171=>315|205=>314|243=>321|246=>261|283=>286|284=>287|285=>288|286=>289|129=>273|317=>304|318=>305|319=>306|320=>307|337=>316|338=>317|n=>n,fun|9=>9|3=>3|2=>2|75=>360|85=>361|4=>4|167=>435|5=>5|53=>390|175=>436|46=>311|168=>438|37=>191|0=>0|210=>449|21=>21|127=>192|145=>456|143=>454|171=>414|173=>416|212=>442|51=>388|20=>20|213=>443|232=>457|233=>458|80=>424|n=>n,fun|15=>7|16=>8|17=>6|18=>9|19=>10|n=>n⟩
def laysC174:Go.Proofs.LaysC.n174 prog laysC174_ren:={
 mixed:=by kernel_rfl
 f129:=func273.trans (congrArg some (by kernel_rfl))
 f171:=func315.trans (congrArg some (by kernel_rfl))
 f174:=func243.trans (congrArg some (by kernel_rfl))
 f205:=func314.trans (congrArg some (by kernel_rfl))
 f243:=func321.trans (congrArg some (by kernel_rfl))
 f245:=func281.trans (congrArg some (by kernel_rfl))
 f246:=func261.trans (congrArg some (by kernel_rfl))
 f247:=func280.trans (congrArg some (by kernel_rfl))
 f279:=func300.trans (congrArg some (by kernel_rfl))
 f280:=func301.trans (congrArg some (by kernel_rfl))
 f281:=func302.trans (congrArg some (by kernel_rfl))
 f282:=func303.trans (congrArg some (by kernel_rfl))
 f283:=func286.trans (congrArg some (by kernel_rfl))
 f284:=func287.trans (congrArg some (by kernel_rfl))
 f285:=func288.trans (congrArg some (by kernel_rfl))
 f286:=func289.trans (congrArg some (by kernel_rfl))
 f287:=func299.trans (congrArg some (by kernel_rfl))
 f316:=func51.trans (congrArg some (by kernel_rfl))
 f317:=func304.trans (congrArg some (by kernel_rfl))
 f318:=func305.trans (congrArg some (by kernel_rfl))
 f319:=func306.trans (congrArg some (by kernel_rfl))
 f320:=func307.trans (congrArg some (by kernel_rfl))
 f321:=func312.trans (congrArg some (by kernel_rfl))
 f322:=func313.trans (congrArg some (by kernel_rfl))
 f337:=func316.trans (congrArg some (by kernel_rfl))
 f338:=func317.trans (congrArg some (by kernel_rfl))
 t0:=underlying0
 a0:=isAgg0
 z0:=sizeOf0
 v0:=zeroValue0
 t2:=underlying2
 a2:=isAgg2
 z2:=sizeOf2
 v2:=zeroValue2
 t3:=underlying3
 a3:=isAgg3
 z3:=sizeOf3
 v3:=zeroValue3
 t4:=underlying4
 a4:=isAgg4
 z4:=sizeOf4
 v4:=zeroValue4
 t5:=underlying5
 a5:=isAgg5
 z5:=sizeOf5
 v5:=zeroValue5
 t9:=underlying9
 a9:=isAgg9
 z9:=sizeOf9
 v9:=zeroValue9
 t20:=underlying20
 a20:=isAgg20
 z20:=sizeOf20
 v20:=zeroValue20
 t21:=underlying21
 a21:=isAgg21
 z21:=sizeOf21
 v21:=zeroValue21
 t37:=underlying191
 a37:=isAgg191
 z37:=sizeOf191
 v37:=zeroValue191
 t46:=underlying311
 a46:=isAgg311
 z46:=sizeOf311
 v46:=zeroValue311
 t51:=underlying388
 a51:=isAgg388
 z51:=sizeOf388
 v51:=zeroValue388
 t53:=underlying390
 a53:=isAgg390
 z53:=sizeOf390
 v53:=zeroValue390
 t75:=underlying360
 a75:=isAgg360
 z75:=sizeOf360
 v75:=zeroValue360
 t85:=underlying361
 a85:=isAgg361
 z85:=sizeOf361
 v85:=zeroValue361
 t127:=underlying192
 a127:=isAgg192
 z127:=sizeOf192
 v127:=zeroValue192
 t143:=underlying454
 a143:=isAgg454
 z143:=sizeOf454
 v143:=zeroValue454
 t145:=underlying456
 a145:=isAgg456
 z145:=sizeOf456
 v145:=zeroValue456
 t167:=underlying435
 a167:=isAgg435
 z167:=sizeOf435
 v167:=zeroValue435
 t168:=underlying438
 a168:=isAgg438
 z168:=sizeOf438
 v168:=zeroValue438
 t171:=underlying414
 a171:=isAgg414
 z171:=sizeOf414
 v171:=zeroValue414
 t173:=underlying416
 a173:=isAgg416
 z173:=sizeOf416
 v173:=zeroValue416
 t175:=underlying436
 a175:=isAgg436
 z175:=sizeOf436
 v175:=zeroValue436
 t210:=underlying449
 a210:=isAgg449
 z210:=sizeOf449
 v210:=zeroValue449
 t212:=underlying442
 a212:=isAgg442
 z212:=sizeOf442
 v212:=zeroValue442
 t213:=underlying443
 a213:=isAgg443
 z213:=sizeOf443
 t232:=underlying457
 a232:=isAgg457
 z232:=sizeOf457
 v232:=zeroValue457
 t233:=underlying458
 a233:=isAgg458
 z233:=sizeOf458
 v233:=zeroValue458
 g15:=by kernel_rfl
 g16:=by kernel_rfl
 g17:=by kernel_rfl
 g18:=by kernel_rfl
 g19:=by kernel_rfl
 t80:=underlying424
 a80:=isAgg424
 z80:=sizeOf424
 v80:=zeroValue424
 i0:=by kernel_rfl
 i2:=by kernel_rfl
 i3:=by kernel_rfl
 i4:=by kernel_rfl
 i5:=by kernel_rfl
 i9:=by kernel_rfl
 i20:=by kernel_rfl
 i21:=by kernel_rfl
 i37:=by kernel_rfl
 i46:=by kernel_rfl
 i51:=by kernel_rfl
 i53:=by kernel_rfl
 i75:=by kernel_rfl
 i80:=by kernel_rfl
 i85:=by kernel_rfl
 i127:=by kernel_rfl
 i143:=by kernel_rfl
 i145:=by kernel_rfl
 i167:=by kernel_rfl
 i168:=by kernel_rfl
 i171:=by kernel_rfl
 i173:=by kernel_rfl
 i175:=by kernel_rfl
 i210:=by kernel_rfl
 i212:=by kernel_rfl
 i232:=by kernel_rfl
 i233:=by kernel_rfl
 m15:=by kernel_rfl
 m16:=by kernel_rfl
 m17:=by kernel_rfl
 m18:=by kernel_rfl
 m19:=by kernel_rfl
 c0:=by kernel_rfl
 c2:=by kernel_rfl
 c3:=by kernel_rfl
 c4:=by kernel_rfl
 c5:=by kernel_rfl
 c9:=by kernel_rfl
 c20:=by kernel_rfl
 c21:=by kernel_rfl
 c37:=by kernel_rfl
 c46:=by kernel_rfl
 c51:=by kernel_rfl
 c53:=by kernel_rfl
 c75:=by kernel_rfl
 c80:=by kernel_rfl
 c85:=by kernel_rfl
 c127:=by kernel_rfl
 c143:=by kernel_rfl
 c145:=by kernel_rfl
 c167:=by kernel_rfl
 c168:=by kernel_rfl
 c171:=by kernel_rfl
 c173:=by kernel_rfl
 c175:=by kernel_rfl
 c210:=by kernel_rfl
 c212:=by kernel_rfl
 c213:=by kernel_rfl
 c232:=by kernel_rfl
 c233:=by kernel_rfl }
open Go.RowKit in
def strconv_ParseInt_10_at64_ok(s:ByteArray)(a:s.size<=9223372036854775806)(v:Int)(h:Lib.parseIntB 64 s.data.toList=.ok v)(w:World):
 Calls prog 243 #[.string s,.int .i64 10,.int .i64 64] w fun e b=>e=.returned (.tuple #[.int .i64 v,.nilIface])/\(b=w\/∃t,b=Lib.bytesWorld w 5 t):=Any.strconv_ParseInt_10_at64_ok laysC174 s a v h w
open Go.RowKit in
def strconv_ParseInt_10_at64_range(s:ByteArray)(b:s.size<=281474976710656)(h:Lib.parseIntB 64 s.data.toList=.range)(a:Value)(w:World)(g:w.cell? ⟨8,0,none⟩=some a)(c:a=.nilIface\/∃f i,a=.iface f i):
 Calls prog 243 #[.string s,.int .i64 10,.int .i64 64] w fun e d=>∃N,e=.returned (.tuple #[.int .i64 (Lib.intSat 64 s.data.toList),.iface 438 (.pointer (some ⟨N,0,none⟩))])/\w.heap.size<=N/\d.heap[N]?=some (.cells #[.string ⟨#[80,97,114,115,101,73,110,116]⟩,.string s,a] 449 (0,0))/\Below w.heap.size w d:=Any.strconv_ParseInt_10_at64_range laysC174 s b h a w g c
def lays197_ren:Go.Shelf.Ren:=⟨fun|197=>138|260=>188|n=>n,fun|9=>9|21=>21|3=>3|4=>4|5=>5|105=>249|119=>355|0=>0|46=>311|139=>358|138=>357|n=>n,fun|3=>1|4=>2|n=>n⟩
def lays197:Go.Proofs.Lays.n197 prog lays197_ren:={
 mixed:=by kernel_rfl
 f197:=func138.trans (congrArg some (by kernel_rfl))
 f260:=func188.trans (congrArg some (by kernel_rfl))
 t0:=underlying0
 a0:=isAgg0
 z0:=sizeOf0
 v0:=zeroValue0
 t3:=underlying3
 a3:=isAgg3
 z3:=sizeOf3
 v3:=zeroValue3
 t4:=underlying4
 a4:=isAgg4
 z4:=sizeOf4
 v4:=zeroValue4
 t5:=underlying5
 a5:=isAgg5
 z5:=sizeOf5
 v5:=zeroValue5
 t9:=underlying9
 a9:=isAgg9
 z9:=sizeOf9
 v9:=zeroValue9
 t21:=underlying21
 a21:=isAgg21
 z21:=sizeOf21
 v21:=zeroValue21
 t46:=underlying311
 a46:=isAgg311
 z46:=sizeOf311
 v46:=zeroValue311
 t105:=underlying249
 a105:=isAgg249
 z105:=sizeOf249
 v105:=zeroValue249
 t119:=underlying355
 a119:=isAgg355
 z119:=sizeOf355
 t138:=underlying357
 a138:=isAgg357
 z138:=sizeOf357
 v138:=zeroValue357
 t139:=underlying358
 a139:=isAgg358
 z139:=sizeOf358
 v139:=zeroValue358
 g3:=by kernel_rfl
 g4:=by kernel_rfl }
open Go.RowKit Go.Lib in
def utf8_DecodeRuneInString(s:ByteArray)(w:World)(b:Lib.Utf8Tabs 1 2 w):
 Calls prog 138 #[.string s] w fun e a=>e=.returned (.tuple #[.int .i32 (Lib.decodeGo s).1,.int .i64 (Lib.decodeGo s).2])/\Below w.heap.size w a:=Any.utf8_DecodeRuneInString lays197 s w b
end Go.Proofs
namespace Go.Proofs
open _root_.Go.Proofs.Tryz
def lays156_ren:Go.Shelf.Ren:=⟨fun|156=>263|165=>290|166=>291|169=>292|240=>308|241=>309|276=>318|277=>319|n=>n,fun|31=>54|9=>9|3=>3|4=>4|0=>0|20=>20|72=>420|76=>422|70=>418|37=>191|75=>360|127=>192|164=>451|5=>5|80=>424|n=>n,fun|n=>n⟩
def lays156:Go.Proofs.Lays.n156 prog lays156_ren:={
 mixed:=by kernel_rfl
 f156:=func263.trans (congrArg some (by kernel_rfl))
 f165:=func290.trans (congrArg some (by kernel_rfl))
 f166:=func291.trans (congrArg some (by kernel_rfl))
 f169:=func292.trans (congrArg some (by kernel_rfl))
 f240:=func308.trans (congrArg some (by kernel_rfl))
 f241:=func309.trans (congrArg some (by kernel_rfl))
 f276:=func318.trans (congrArg some (by kernel_rfl))
 f277:=func319.trans (congrArg some (by kernel_rfl))
 t0:=underlying0
 a0:=isAgg0
 z0:=sizeOf0
 v0:=zeroValue0
 t3:=underlying3
 a3:=isAgg3
 z3:=sizeOf3
 v3:=zeroValue3
 t4:=underlying4
 a4:=isAgg4
 z4:=sizeOf4
 v4:=zeroValue4
 t9:=underlying9
 a9:=isAgg9
 z9:=sizeOf9
 v9:=zeroValue9
 t20:=underlying20
 a20:=isAgg20
 z20:=sizeOf20
 v20:=zeroValue20
 t31:=underlying54
 a31:=isAgg54
 z31:=sizeOf54
 v31:=zeroValue54
 t37:=underlying191
 a37:=isAgg191
 z37:=sizeOf191
 v37:=zeroValue191
 t70:=underlying418
 a70:=isAgg418
 z70:=sizeOf418
 v70:=zeroValue418
 t72:=underlying420
 a72:=isAgg420
 z72:=sizeOf420
 v72:=zeroValue420
 t75:=underlying360
 a75:=isAgg360
 z75:=sizeOf360
 v75:=zeroValue360
 t76:=underlying422
 a76:=isAgg422
 z76:=sizeOf422
 v76:=zeroValue422
 t127:=underlying192
 a127:=isAgg192
 z127:=sizeOf192
 v127:=zeroValue192
 t164:=underlying451
 a164:=isAgg451
 z164:=sizeOf451
 v164:=zeroValue451 }
def Builder_Extra_156:Builder.Extra prog lays156_ren:={
 sizeBuilder:=by kernel_rfl
 liesBuilder:=by kernel_rfl
 t5:=underlying5
 a5:=isAgg5
 z5:=sizeOf5
 v5:=zeroValue5
 infoByte:=by kernel_rfl
 cellsByte:=by kernel_rfl
 sizeByte:=by kernel_rfl
 neB5:=by decide }
open Go.RowKit in
def strings_Join_none(a:Option Addr)(c:Nat)(b:ByteArray)(w:World):
 Calls prog 263 #[.slice a 0 c,.string b] w fun e d=>e=.returned (.string ⟨#[]⟩)/\d=w:=Any.strings_Join_none lays156 Builder_Extra_156 a c b w
open Go.RowKit in
def strings_Join(h o c:Nat)(d:List ByteArray)(a:ByteArray)(w:World)(b:∀(j:Nat) x,d[j]?=some x->w.cell? ⟨h,o+j,none⟩=some (.string x))(i:h<w.heap.size)(l:d.length<=140737488355328)(f:d.length<=c)(g:(Lib.join (d.map (·.data.toList)) a.data.toList).length<=140737488355328):
 Calls prog 263 #[.slice (some ⟨h,o,none⟩) d.length c,.string a] w fun e k=>e=.returned (.string ⟨(Lib.join (d.map (·.data.toList)) a.data.toList).toArray⟩)/\Below w.heap.size w k:=Any.strings_Join lays156 Builder_Extra_156 h o c d a w b i l f g
def lays106_ren:Go.Shelf.Ren:=⟨fun|106=>173|213=>227|265=>274|n=>n,fun|9=>9|3=>3|n=>n,fun|n=>n⟩
def lays106:Go.Proofs.Lays.n106 prog lays106_ren:={
 mixed:=by kernel_rfl
 f106:=func173.trans (congrArg some (by kernel_rfl))
 f213:=func227.trans (congrArg some (by kernel_rfl))
 f265:=func274.trans (congrArg some (by kernel_rfl))
 t3:=underlying3
 a3:=isAgg3
 z3:=sizeOf3
 v3:=zeroValue3
 t9:=underlying9
 a9:=isAgg9
 z9:=sizeOf9
 v9:=zeroValue9 }
open Go.RowKit in
def strings_Compare(a b:ByteArray)(w:World):
 Calls prog 173 #[.string a,.string b] w fun e c=>e=.returned (.int .i64 (Lib.compareBytes a.data.toList b.data.toList))/\c=w:=Any.strings_Compare lays106 a b w
def lays121_ren:Go.Shelf.Ren:=⟨fun|121=>223|214=>262|n=>n,fun|4=>4|9=>9|n=>n,fun|n=>n⟩
def lays121:Go.Proofs.Lays.n121 prog lays121_ren:={
 mixed:=by kernel_rfl
 f121:=func223.trans (congrArg some (by kernel_rfl))
 f214:=func262.trans (congrArg some (by kernel_rfl))
 t4:=underlying4
 a4:=isAgg4
 z4:=sizeOf4
 v4:=zeroValue4
 t9:=underlying9
 a9:=isAgg9
 z9:=sizeOf9
 v9:=zeroValue9 }
open Go.RowKit in
def strconv_FormatBool(b:Bool)(w:World):
 Calls prog 223 #[.bool b] w fun e a=>e=.returned (.string ⟨(Lib.formatBool b).toArray⟩)/\a=w:=Any.strconv_FormatBool lays121 b w
def lays195_ren:Go.Shelf.Ren:=⟨fun|195=>372|n=>n,fun|9=>9|3=>3|0=>0|4=>4|n=>n,fun|n=>n⟩
def lays195:Go.Proofs.Lays.n195 prog lays195_ren:={
 mixed:=by kernel_rfl
 f195:=func372.trans (congrArg some (by kernel_rfl))
 t0:=underlying0
 a0:=isAgg0
 z0:=sizeOf0
 v0:=zeroValue0
 t3:=underlying3
 a3:=isAgg3
 z3:=sizeOf3
 v3:=zeroValue3
 t4:=underlying4
 a4:=isAgg4
 z4:=sizeOf4
 v4:=zeroValue4
 t9:=underlying9
 a9:=isAgg9
 z9:=sizeOf9
 v9:=zeroValue9 }
open Go.RowKit in
def utf8_RuneCountInString(s:ByteArray)(w:World)(c:s.size<9223372036854775807):
 Calls prog 372 #[.string s] w fun e b=>e=.returned (.int .i64 (Lib.runeCount s))/\∃a,b=w.iter s a:=Any.utf8_RuneCountInString lays195 s w c
def laysM173_ren:Go.Shelf.Ren:=⟨fun|173=>222|246=>261|283=>286|284=>287|285=>288|286=>289|129=>273|317=>304|318=>305|319=>306|320=>307|337=>316|338=>317|n=>n,fun|2=>2|3=>3|9=>9|4=>4|171=>414|0=>0|53=>390|37=>191|5=>5|173=>416|212=>442|51=>388|20=>20|213=>443|46=>311|232=>457|233=>458|n=>n,fun|17=>6|18=>9|19=>10|n=>n⟩
def laysM173:Go.Proofs.LaysM.n173 prog laysM173_ren:={
 mixed:=by kernel_rfl
 f129:=func273.trans (congrArg some (by kernel_rfl))
 f173:=func222.trans (congrArg some (by kernel_rfl))
 f246:=func261.trans (congrArg some (by kernel_rfl))
 f283:=func286.trans (congrArg some (by kernel_rfl))
 f284:=func287.trans (congrArg some (by kernel_rfl))
 f285:=func288.trans (congrArg some (by kernel_rfl))
 f286:=func289.trans (congrArg some (by kernel_rfl))
 f317:=func304.trans (congrArg some (by kernel_rfl))
 f318:=func305.trans (congrArg some (by kernel_rfl))
 f319:=func306.trans (congrArg some (by kernel_rfl))
 f320:=func307.trans (congrArg some (by kernel_rfl))
 f337:=func316.trans (congrArg some (by kernel_rfl))
 f338:=func317.trans (congrArg some (by kernel_rfl))
 t0:=underlying0
 a0:=isAgg0
 z0:=sizeOf0
 v0:=zeroValue0
 t2:=underlying2
 a2:=isAgg2
 z2:=sizeOf2
 v2:=zeroValue2
 t3:=underlying3
 a3:=isAgg3
 z3:=sizeOf3
 v3:=zeroValue3
 t4:=underlying4
 a4:=isAgg4
 z4:=sizeOf4
 v4:=zeroValue4
 t5:=underlying5
 a5:=isAgg5
 z5:=sizeOf5
 v5:=zeroValue5
 t9:=underlying9
 a9:=isAgg9
 z9:=sizeOf9
 v9:=zeroValue9
 t20:=underlying20
 a20:=isAgg20
 z20:=sizeOf20
 v20:=zeroValue20
 t37:=underlying191
 a37:=isAgg191
 z37:=sizeOf191
 v37:=zeroValue191
 t46:=underlying311
 a46:=isAgg311
 z46:=sizeOf311
 v46:=zeroValue311
 t51:=underlying388
 a51:=isAgg388
 z51:=sizeOf388
 v51:=zeroValue388
 t53:=underlying390
 a53:=isAgg390
 z53:=sizeOf390
 v53:=zeroValue390
 t171:=underlying414
 a171:=isAgg414
 z171:=sizeOf414
 v171:=zeroValue414
 t173:=underlying416
 a173:=isAgg416
 z173:=sizeOf416
 v173:=zeroValue416
 t212:=underlying442
 a212:=isAgg442
 z212:=sizeOf442
 v212:=zeroValue442
 t213:=underlying443
 a213:=isAgg443
 z213:=sizeOf443
 t232:=underlying457
 a232:=isAgg457
 z232:=sizeOf457
 v232:=zeroValue457
 t233:=underlying458
 a233:=isAgg458
 z233:=sizeOf458
 v233:=zeroValue458
 g17:=by kernel_rfl
 g18:=by kernel_rfl
 g19:=by kernel_rfl
 i0:=by kernel_rfl
 i2:=by kernel_rfl
 i3:=by kernel_rfl
 i4:=by kernel_rfl
 i5:=by kernel_rfl
 i9:=by kernel_rfl
 i20:=by kernel_rfl
 i37:=by kernel_rfl
 i46:=by kernel_rfl
 i51:=by kernel_rfl
 i53:=by kernel_rfl
 i171:=by kernel_rfl
 i173:=by kernel_rfl
 i212:=by kernel_rfl
 i232:=by kernel_rfl
 i233:=by kernel_rfl
 m17:=by kernel_rfl
 m18:=by kernel_rfl
 m19:=by kernel_rfl }
open Go.RowKit Go.Sort Go.Lib in
def strconv_FormatInt_10(n:Int)(f: -9223372036854775808<=n)(d:n<=9223372036854775807)(w:World)(a:Lib.TabIs prog w "internal/strconv.uint64pow10" .u64 Lib.pow10Tab):
 Calls prog 222 #[.int .i64 n,.int .i64 10] w fun e b=>e=.returned (.string ⟨(Lib.itoa n).toArray⟩)/\∃k c,b=grow (w.drewN k) c:=Any.strconv_FormatInt_10 laysM173 n f d w a
end Go.Proofs
namespace Go.Proofs
open _root_.Go.Proofs.Tryz
def laysM316_ren:Go.Shelf.Ren:=⟨fun|316=>51|n=>n,fun|9=>9|3=>3|4=>4|37=>191|0=>0|127=>192|5=>5|n=>n,fun|n=>n⟩
def laysM316:Go.Proofs.LaysM.n316 prog laysM316_ren:={
 mixed:=by kernel_rfl
 f316:=func51.trans (congrArg some (by kernel_rfl))
 t0:=underlying0
 a0:=isAgg0
 z0:=sizeOf0
 v0:=zeroValue0
 t3:=underlying3
 a3:=isAgg3
 z3:=sizeOf3
 v3:=zeroValue3
 t4:=underlying4
 a4:=isAgg4
 z4:=sizeOf4
 v4:=zeroValue4
 t9:=underlying9
 a9:=isAgg9
 z9:=sizeOf9
 v9:=zeroValue9
 t37:=underlying191
 a37:=isAgg191
 z37:=sizeOf191
 v37:=zeroValue191
 t127:=underlying192
 a127:=isAgg192
 z127:=sizeOf192
 v127:=zeroValue192
 t5:=underlying5
 a5:=isAgg5
 z5:=sizeOf5
 v5:=zeroValue5
 i0:=by kernel_rfl
 i3:=by kernel_rfl
 i4:=by kernel_rfl
 i5:=by kernel_rfl
 i9:=by kernel_rfl
 i37:=by kernel_rfl
 i127:=by kernel_rfl }
open Go.RowKit in
def stringslite_Clone(s:ByteArray)(w:World)(a:s.size<=281474976710656):
 Calls prog 51 #[.string s] w fun e b=>e=.returned (.string s)/\Below w.heap.size w b:=Any.stringslite_Clone laysM316 s w a
end Go.Proofs
namespace Go.Proofs
open _root_.Go.Proofs.Tryz
def sortL_ren:Go.Shelf.Ren:=⟨fun|6=>171|15=>226|14=>225|28=>272|29=>273|20=>264|21=>265|22=>266|23=>267|24=>268|25=>269|26=>270|27=>271|46=>293|47=>294|48=>295|49=>296|50=>297|57=>310|n=>n,fun|22=>71|24=>135|25=>295|3=>3|39=>311|0=>0|53=>388|55=>390|4=>4|46=>382|45=>381|50=>185|5=>5|9=>9|66=>425|70=>429|76=>444|77=>445|n=>n,fun|n=>n⟩
def sortL:Go.Proofs.SlLaysF0.n6 prog sortL_ren:={
 mixed:=by kernel_rfl
 f6:=⟨Tryz.f171.name,by decide,func171.trans (congrArg some (by kernel_rfl))⟩
 f14:=⟨f225.name,by decide,func225.trans (congrArg some (by kernel_rfl))⟩
 f15:=func226.trans (congrArg some (by kernel_rfl))
 f20:=⟨f264.name,by decide,func264.trans (congrArg some (by kernel_rfl))⟩
 f21:=⟨Tryz.f265.name,by decide,func265.trans (congrArg some (by kernel_rfl))⟩
 f22:=⟨f266.name,by decide,func266.trans (congrArg some (by kernel_rfl))⟩
 f23:=⟨f267.name,by decide,func267.trans (congrArg some (by kernel_rfl))⟩
 f24:=⟨f268.name,by decide,func268.trans (congrArg some (by kernel_rfl))⟩
 f25:=⟨f269.name,by decide,func269.trans (congrArg some (by kernel_rfl))⟩
 f26:=⟨f270.name,by decide,func270.trans (congrArg some (by kernel_rfl))⟩
 f27:=⟨f271.name,by decide,func271.trans (congrArg some (by kernel_rfl))⟩
 f28:=func272.trans (congrArg some (by kernel_rfl))
 f29:=func273.trans (congrArg some (by kernel_rfl))
 f46:=⟨f293.name,by decide,func293.trans (congrArg some (by kernel_rfl))⟩
 f47:=func294.trans (congrArg some (by kernel_rfl))
 f48:=func295.trans (congrArg some (by kernel_rfl))
 f49:=⟨f296.name,by decide,func296.trans (congrArg some (by kernel_rfl))⟩
 f50:=⟨f297.name,by decide,func297.trans (congrArg some (by kernel_rfl))⟩
 f57:=⟨f310.name,by decide,func310.trans (congrArg some (by kernel_rfl))⟩
 t0:=underlying0
 a0:=isAgg0
 z0:=sizeOf0
 v0:=zeroValue0
 t3:=underlying3
 a3:=isAgg3
 z3:=sizeOf3
 v3:=zeroValue3
 t4:=underlying4
 a4:=isAgg4
 z4:=sizeOf4
 v4:=zeroValue4
 t5:=underlying5
 a5:=isAgg5
 z5:=sizeOf5
 v5:=zeroValue5
 t9:=underlying9
 a9:=isAgg9
 z9:=sizeOf9
 v9:=zeroValue9
 t22:=underlying71
 a22:=isAgg71
 z22:=sizeOf71
 v22:=zeroValue71
 t25:=underlying295
 a25:=isAgg295
 z25:=sizeOf295
 v25:=zeroValue295
 t39:=underlying311
 a39:=isAgg311
 z39:=sizeOf311
 v39:=zeroValue311
 t45:=underlying381
 a45:=isAgg381
 z45:=sizeOf381
 v45:=zeroValue381
 t46:=underlying382
 a46:=isAgg382
 z46:=sizeOf382
 v46:=zeroValue382
 t50:=underlying185
 a50:=isAgg185
 z50:=sizeOf185
 v50:=zeroValue185
 t53:=underlying388
 a53:=isAgg388
 z53:=sizeOf388
 v53:=zeroValue388
 t55:=underlying390
 a55:=isAgg390
 z55:=sizeOf390
 v55:=zeroValue390
 t66:=underlying425
 a66:=isAgg425
 z66:=sizeOf425
 v66:=zeroValue425
 t70:=underlying429
 a70:=isAgg429
 z70:=sizeOf429
 v70:=zeroValue429
 t76:=underlying444
 a76:=isAgg444
 z76:=sizeOf444
 v76:=zeroValue444
 t77:=underlying445
 a77:=isAgg445
 z77:=sizeOf445
 v77:=zeroValue445 }
end Go.Proofs
