"""saykit: a program's messages in many languages. The calls are answered by saymessages.kit."""
