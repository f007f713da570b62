"""What needs no asking: copies of the same facts that go on by themselves under one rule."""
