"""An exchange's book: orders rest, wait, trade and end, and each event is told."""
