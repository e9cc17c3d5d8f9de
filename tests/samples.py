"""Programs with each kind of line, statement, node and expression."""

WHOLE = '''
store total = -12;
store names = [null, true, false, 7, "a\\"b\\\\c\\n", [], {}, {x: 1, y: [{z: -0}]}];
component Main(first, second) {
  context theme;
  context size_of;
  state count = 0;
  state open1 = first == second;
  let double = count * 2 + first.x[1] - -3;
  resource answer = "key" + double;
  let rows = [row.id for row in answer if row.id != null && !row.off];
  handler add(by1, more) {
    count = count + by1;
    total = total - 1;
    call more.done.then(1, "x", event);
    log();
    log(count, {a: 1, b: [2]});
    stop;
    prevent;
    if count > 3 || false { stop; } else { prevent; }
    if count <= 3 { later { count = 0; } }
    later {}
    after 100 { log("a"); }
    every 10 * 10 { count = count / 2; }
  }
  handler none() {}
  effect [count, double] { log(count); } cleanup { log("gone"); }
  effect [] {}
  view {
    <main class="a" id={"b"} wide={count >= 2} on click={do add(1, null)} on key_down={count ? do none() : null}>
      "text" {count} slot
      <Other a={1} B={"x"}><p/></Other>
      <Other a={text(count)} B="y"/>
    </main>
    if count < 1 { "few" } else { <b>"many"</b> }
    if true {}
    each row, index in rows by row { {row} {index} }
    each one in [] { }
    provide theme = {color: "red"} { slot }
    await { <Other a={2} B={3}/> } else { "wait" }
    await {} else {}
    try { {double} } catch failure { {failure.message} <button on click={failure.retry}/> }
  }
}
component Other(a, B) {
  view {}
}
'''

CANONICAL = '''store total = -12;
store names = [null, true, false, 7, "a\\"b\\\\c\\n", [], {}, {x: 1, y: [{z: 0}]}];
component Main(first, second) {
  context theme;
  context size_of;
  state count = 0;
  state open1 = first == second;
  let double = count * 2 + first.x[1] - -3;
  resource answer = "key" + double;
  let rows = [row.id for row in answer if row.id != null && !row.off];
  handler add(by1, more) {
    count = count + by1;
    total = total - 1;
    call more.done.then(1, "x", event);
    log();
    log(count, {a: 1, b: [2]});
    stop;
    prevent;
    if count > 3 || false {
      stop;
    } else {
      prevent;
    }
    if count <= 3 {
      later {
        count = 0;
      }
    }
    later {}
    after 100 {
      log("a");
    }
    every 10 * 10 {
      count = count / 2;
    }
  }
  handler none() {}
  effect [count, double] {
    log(count);
  } cleanup {
    log("gone");
  }
  effect [] {}
  view {
    <main class="a" id="b" wide={count >= 2} on click={do add(1, null)} on key_down={count ? do none() : null}>
      "text"
      {count}
      slot
      <Other a={1} B="x">
        <p/>
      </Other>
      <Other a={text(count)} B="y"/>
    </main>
    if count < 1 {
      "few"
    } else {
      <b>
        "many"
      </b>
    }
    if true {}
    each row, index in rows by row {
      {row}
      {index}
    }
    each one in [] {}
    provide theme = {color: "red"} {
      slot
    }
    await {
      <Other a={2} B={3}/>
    } else {
      "wait"
    }
    await {} else {}
    try {
      {double}
    } catch failure {
      {failure.message}
      <button on click={failure.retry}/>
    }
  }
}
component Other(a, B) {
  view {}
}
'''
